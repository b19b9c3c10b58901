import PyProof.Rows.All
import Wide.All
import OpenK.AllK
import Wide.FinOn
import HandS.ForMost
import HandS.IsInst
import HandS.Style
import HandS.Wide
import HandS.Codes
import HandS.NoneIn
import HandS.Defaults
import HandS.TupMul
import HandS.Zip
import HandS.SetFor
import HandS.SetKeys
import HandS.Walk
import HandS.Codes
import HandS.AnyAll
import HandS.WideBits
import HandS.Iter
import HandS.Rev
import HandS.ForExc
import HandS.CallSlots
import PyProof.WalksMore
import KE.GoesEnum
import PySem.Challenge.RW_segmentfs_k66_damaged_octets
set_option Elab.async false
set_option maxRecDepth 100000
set_option maxHeartbeats 4000000
/-! what every text of mine begins with: heaps that grow, and a rule for each head that a reading has -/
namespace Sg
open PySem L2
theorem sz : sizeLine = 16777216 := by decide
theorem Same.of_new {H H' : Hp} {p : Addr} {o : HO} (e : upd H p o = H') (h : H p = none) : Same H H' := fun b u q => by
  rw [← e, upd_ne (ne_of_none q h)]; exact q
theorem at_new {H H' : Hp} {p : Addr} {o : HO} (e : upd H p o = H') : H' p = some o := by rw [← e]; exact upd_same
theorem Same.tup {K : PySem.W.Frag} {H H' : Hp} {a : Addr} {xs : List V} (e : Same H H') (h : SqT K H a xs) : SqT K H' a xs := by
  rcases h with (h | ⟨o, h⟩) | h
  · exact .inl (.inl (e _ _ h))
  · exact .inl (.inr ⟨o, e _ _ h⟩)
  · exact .inr h
/-- an object that is younger than H0 is changed -/
theorem Same.old {H0 H H' : Hp} {p : Addr} {o : HO} (s : Same H0 H) (h : H0 p = none) (e : upd H p o = H') : Same H0 H' := fun b u q => by
  rw [← e, upd_ne (ne_of_none q h)]; exact s _ _ q
theorem at_keep {H H' : Hp} {l a : Addr} {o o' ol : HO} (e : upd H l o' = H') (h : H a = some o) (h' : H l = some ol) (d : o ≠ ol) : H' a = some o := by
  rw [← e, upd_ne (ne_of h h' d)]; exact h
theorem lk_eq {f : Str} {v : V} {fs : List (Str × V)} : (putF f v fs).lookup f = some v := by rw [lookup_putF, if_pos rfl]
theorem lk_ne {f g : Str} {v x : V} {fs : List (Str × V)} (h : ¬ g = f) (q : fs.lookup g = some v) : (putF f x fs).lookup g = some v := by rw [lookup_putF, if_neg h]; exact q
theorem lk_no {f g : Str} {x : V} {fs : List (Str × V)} (h : ¬ g = f) (q : fs.lookup g = none) : (putF f x fs).lookup g = none := by rw [lookup_putF, if_neg h]; exact q
theorem putF_len {f : Str} {v : V} : ∀ {fs : List (Str × V)} {n : Nat}, fs.length ≤ n → (putF f v fs).length ≤ n + 1
  | [], n, _ => by simp [putF]
  | (g, x) :: r, n, h => by
    unfold putF
    split
    · simp at h ⊢; omega
    · cases n with
      | zero => simp at h
      | succ n =>
        simp at h ⊢
        exact putF_len h
theorem to_ite {A B : Prop} {b : Bool} (h1 : b = true → A) (h2 : b = false → B) : if b = true then A else B := by
  cases b with
  | true => exact iteT (h1 rfl)
  | false => exact iteF (h2 rfl)
theorem iteT' {A B : Prop} (h : A) : if (true : Bool) = true then A else B := iteT h
theorem iteF' {A B : Prop} (h : B) : if (false : Bool) = true then A else B := iteF h
theorem r_iteb {A B : Prop} {b : Bool} (hb : b = true) (h : A) : if b = true then A else B := to_ite (fun _ => h) fun z => by rw [hb] at z; cases z
theorem r_iteB {A B : Prop} {b : Bool} (hb : b = false) (h : B) : if b = true then A else B := to_ite (fun z => by rw [hb] at z; cases z) fun _ => h
theorem r_ite {A B c : Prop} [Decidable c] (h1 : c → A) (h2 : ¬ c → B) : if decide c = true then A else B :=
  to_ite (fun h => h1 (of_decide_eq_true h)) (fun h => h2 (of_decide_eq_false h))
theorem r_iteN {A B c : Prop} [Decidable c] (h1 : ¬ c → A) (h2 : c → B) : if (!decide c) = true then A else B :=
  to_ite (fun h => h1 (by simpa using h)) (fun h => h2 (by simpa using h))
theorem r_iteD {A B c : Prop} [Decidable c] (hc : c) (h : A) : if decide c = true then A else B := r_ite (fun _ => h) fun z => absurd hc z
theorem r_iteDn {A B c : Prop} [Decidable c] (hc : ¬ c) (h : B) : if decide c = true then A else B := r_ite (fun z => absurd z hc) fun _ => h
theorem r_iteND {A B c : Prop} [Decidable c] (hc : ¬ c) (h : A) : if (!decide c) = true then A else B := r_iteN (fun _ => h) fun z => absurd z hc
theorem r_iteNDn {A B c : Prop} [Decidable c] (hc : c) (h : B) : if (!decide c) = true then A else B := r_iteN (fun z => absurd hc z) fun _ => h
/-- the continuations of a reading, by name -/
def kTest (QB : Bool → Hp → Prop) : V → Hp → Prop := fun x H => ∃ k, x = .bl k ∧ QB k H
def kFld (K : PySem.W.Frag) (f : Str) (Q : V → Hp → Prop) : V → Hp → Prop := fun x H => ∃ a C dx fs v, x = .ref a ∧ H a = some (.ins C dx fs) ∧ Cls K C ∧ NoAttr K C f ∧ fs.lookup f = some v ∧ Q v H
def kSfld (K : PySem.W.Frag) (D : Ends) (σ : L2.St) (f : Str) (y : V) : V → Hp → Prop := fun x H => ∃ a C dx fs, x = .ref a ∧ H a = some (.ins C dx fs) ∧ Cls K C ∧ NoAttr K C f ∧ fs.length < 1000 ∧
  D.nx σ (upd H a (.ins C dx (putF f y fs)))
def kMeth (C : Addr) (m : Str) (sp : Sp) (dvs : List V) (E : XK) (σ : L2.St) (t : TA) (Q : V → Hp → Prop) : V → Hp → Prop := fun x H => ∃ a dx fs, x = .ref a ∧ H a = some (.ins C dx fs) ∧ fs.lookup m = none ∧ t σ H fun vs H2 => sp (x :: (vs ++ dvs)) H2 Q E
def kTup (Q : V → Hp → Prop) : List V → Hp → Prop := fun xs H => xs.length ≤ sizeLine ∧ ∀ p, H p = none → Q (.ref p) (upd H p (.tup xs))
def kLst (Q : V → Hp → Prop) : List V → Hp → Prop := fun xs H => xs.length ≤ sizeLine ∧ ∀ p, H p = none → Q (.ref p) (upd H p (.lst xs))
def rLen (K : PySem.W.Frag) : List V → Hp → (V → Hp → Prop) → Prop := fun xs H Q => ∃ p ys, xs = [.ref p] ∧ (SqL K H p ys ∨ SqT K H p ys) ∧ Q (.int ys.length) H
theorem c_len {X : Cx} : CallR X (.builtin "len") (rLen X.K) := call_len_seq
def rInt : List V → Hp → (V → Hp → Prop) → Prop := fun xs H Q => (∃ i, xs = [.int i] ∧ Q (.int i) H) ∨ ∃ k, xs = [.bl k] ∧ Q (.int (if k then 1 else 0)) H
theorem c_int {X : Cx} : CallR X (.type "int") rInt := call_int1
def rListOf (K : PySem.W.Frag) : List V → Hp → (V → Hp → Prop) → Prop := fun xs H Q => ∃ p ys, xs = [.ref p] ∧ (SqL K H p ys ∨ SqT K H p ys) ∧ ∀ l, H l = none → Q (.ref l) (upd H l (.lst ys))
theorem c_list {X : Cx} : CallR X (.type "list") (rListOf X.K) := call_list_of
def rTupOf (K : PySem.W.Frag) : List V → Hp → (V → Hp → Prop) → Prop := fun xs H Q => ∃ p ys, xs = [.ref p] ∧ ((SqL K H p ys ∧ ∀ l, H l = none → Q (.ref l) (upd H l (.tup ys))) ∨ (SqT K H p ys ∧ Q (.ref p) H))
theorem c_tuple {X : Cx} : CallR X (.type "tuple") (rTupOf X.K) := call_tuple_of
/-! the same rules within a comprehension: the written part by its own name -/
section
variable {X : Cx}
theorem c_listK (K : PySem.W.Frag) (h : X.K = K) : CallR X (.type "list") (rListOf K) := by subst h; exact c_list
theorem c_tupleK (K : PySem.W.Frag) (h : X.K = K) : CallR X (.type "tuple") (rTupOf K) := by subst h; exact c_tuple
theorem c_lenK (K : PySem.W.Frag) (h : X.K = K) : CallR X (.builtin "len") (rLen K) := by subst h; exact c_len
theorem ix_listK (K : PySem.W.Frag) (h : X.K = K) : IxR X (rIxL K) := by subst h; exact ix_list
theorem ix_tupK (K : PySem.W.Frag) (h : X.K = K) : IxR X (rIxT K) := by subst h; exact ix_tup
theorem op_in_seqK (K : PySem.W.Frag) (h : X.K = K) : OpR X (compareOp .In) (rIn K false) := by subst h; exact op_in_seq
theorem op_notIn_seqK (K : PySem.W.Frag) (h : X.K = K) : OpR X (compareOp .NotIn) (rIn K true) := by subst h; exact op_notIn_seq
theorem pe_fldK (K : PySem.W.Frag) (h : X.K = K) {e : Expr} {f : Str} {pos : Pos} {ta : TE} (he : PE X e ta) (hb : attributeBase e f X.env (eval e X.env) = eval e X.env) : PE X (.Attribute e f pos) (tFld K ta f) := by subst h; exact pe_fld he hb
end
section
variable {σ : L2.St} {H : Hp} {D : Ends} {t u : TS} {te ta tb tc : TE} {g : TG} {c ct cu : TT} {Q : VK} {QB : Bool → Hp → Prop} {QS : L2.St → Hp → Prop} {QA : List V → Hp → Prop} {v x y : V} {K : PySem.W.Frag} {a p l : Addr} {xs ys : List V} {i j : Int} {b : Bool}
theorem r_seq (h : t { D with nx := u D } σ H) : tSeq t u D σ H := h
theorem r_cut (Mid : L2.St → Hp → Prop) (h1 : t { D with nx := Mid } σ H) (h2 : ∀ σ' H', Mid σ' H' → u D σ' H') : C8.tCut t u D σ H := ⟨Mid, h1, h2⟩
/-- a test with nothing kept behind it -/
theorem r_cutS (h1 : t { D with nx := fun σ' H' => σ = σ' ∧ H = H' } σ H) (h2 : u D σ H) : C8.tCut t u D σ H := ⟨_, h1, fun _ _ ⟨e1, e2⟩ => by subst e1; subst e2; exact h2⟩
/-- .. but a heap that grew -/
theorem r_cutH (h1 : t { D with nx := fun σ' H' => σ = σ' ∧ L2.Same H H' } σ H) (h2 : ∀ H', L2.Same H H' → u D σ H') : C8.tCut t u D σ H := ⟨_, h1, fun _ _ ⟨e1, e2⟩ => by subst e1; exact h2 _ e2⟩
theorem r_asg (h : te σ H fun x H1 => g x σ H1 D.nx) : tAsg te g D σ H := h
theorem r_drop (h : te σ H fun _ H1 => D.nx σ H1) : tDrop te D σ H := h
theorem r_ret (h : te σ H D.rt) : tRet te D σ H := h
theorem r_ifs (h : c σ H fun b H1 => if b = true then t D σ H1 else u D σ H1) : tIfS c t u D σ H := h
theorem r_next (h : D.nx σ H) : tNext D σ H := h
theorem r_gname {n : Nat} (h : QS (σ.set n (some v)) H) : gName n v σ H QS := h
theorem r_gtup {n : Nat} {t : TGs} (hx : SqT K H a xs) (hl : xs.length = n) (h : t xs σ H QS) : gTup K n t (.ref a) σ H QS := ⟨a, xs, rfl, hx, hl, h⟩
theorem r_gunl {n : Nat} {t : TGs} (hx : SqL K H a xs) (hl : xs.length = n) (h : t xs σ H QS) : gUnl K n t (.ref a) σ H QS := ⟨a, xs, rfl, hx, hl, h⟩
theorem r_chain {r r' : R2} (h : ta σ H fun x H1 => tb σ H1 fun y H2 => r x y H2 fun z H3 => ∃ k, z = .bl k ∧ (if k = true then tc σ H3 fun w' H4 => r' y w' H4 Q else Q (.bl false) H3)) : tChain r r' ta tb tc σ H Q := h
theorem r_sfldL {C dx : Addr} {fs : List (Str × V)} {f : Str} (h : H a = some (.ins C dx fs)) (hc : Cls K C) (hn : NoAttr K C f) (hl : fs.length < 1000) (q : D.nx σ (upd H a (.ins C dx (putF f y fs)))) : kSfld K D σ f y (.ref a) H := ⟨a, C, dx, fs, rfl, h, hc, hn, hl, q⟩
theorem r_gmap {α : Type} {f : α → V} {y : α} {r : List α} {t : TG} {u : TGs} (h : t (f y) σ H fun σ' H' => u (List.map f r) σ' H' QS) : gCons t u (List.map f (y :: r)) σ H QS := ⟨_, _, rfl, h⟩
theorem r_gmapn {α : Type} {f : α → V} (h : QS σ H) : gNil (List.map f []) σ H QS := ⟨rfl, h⟩
theorem r_gnil (h : QS σ H) : gNil [] σ H QS := ⟨rfl, h⟩
theorem r_gcons {t : TG} {u : TGs} {r : List V} (h : t v σ H fun σ' H' => u r σ' H' QS) : gCons t u (v :: r) σ H QS := ⟨v, r, rfl, h⟩
theorem r_gsub {t : TSet} (h : ta σ H fun o H1 => tb σ H1 fun i H2 => t o i v H2 fun H3 => QS σ H3) : gSub ta tb t v σ H QS := h
theorem r_setl {k : Int} {n : Nat} {R : Hp → Prop} (h1 : H p = some (.lst xs)) (h2 : ixN xs.length k = some n) (q : R (upd H p (.lst (xs.set n v)))) : rSetL (.ref p) (.int k) v H R := ⟨p, xs, k, n, rfl, rfl, h1, h2, q⟩
theorem r_var {n : Nat} (h : σ[n]? = some (some v)) (q : Q v H) : tVar n σ H Q := ⟨v, h, q⟩
theorem r_c (q : Q v H) : tC v σ H Q := q
theorem r_op {r : R2} (h : ta σ H fun x H1 => tb σ H1 fun y H2 => r x y H2 Q) : tOp r ta tb σ H Q := h
theorem r_un {r : V → Hp → VK → Prop} (h : ta σ H fun x H1 => r x H1 Q) : tUn r ta σ H Q := h
theorem r_rI {C : Int → Int → Prop} {g : Int → Int → V} (hc : C i j) (q : Q (g i j) H) : rI C g (.int i) (.int j) H Q := ⟨i, j, rfl, rfl, hc, q⟩
theorem r_mod (hc : 0 < j) (q : ∀ z : Int, z = i % j → 0 ≤ z → z < j → Q (.int z) H) : rI (fun _ j => 0 < j) (fun i j => .int (i % j)) (.int i) (.int j) H Q :=
  ⟨i, j, rfl, rfl, hc, q _ rfl (Int.emod_nonneg i (by omega)) (Int.emod_lt_of_pos i hc)⟩
theorem r_rI0 {g : Int → Int → V} (q : Q (g i j) H) : rI0 g (.int i) (.int j) H Q := ⟨i, j, rfl, rfl, q⟩
theorem r_rU {g : Int → V} (q : Q (g i) H) : rU g (.int i) H Q := ⟨i, rfl, q⟩
theorem r_eq (hs : scal x y = true) (q : Q (.bl (decide (x = y))) H) : rEq x y H Q := ⟨hs, q⟩
theorem r_ne (hs : scal x y = true) (q : Q (.bl (!decide (x = y))) H) : rNe x y H Q := ⟨hs, q⟩
theorem r_eqi (q : Q (.bl (decide (i = j))) H) : rEq (.int i) (.int j) H Q := ⟨rfl, by
  rw [show decide (V.int i = V.int j) = decide (i = j) from by by_cases e : i = j <;> simp [e]]; exact q⟩
theorem r_nei (q : Q (.bl (!decide (i = j))) H) : rNe (.int i) (.int j) H Q := ⟨rfl, by
  rw [show decide (V.int i = V.int j) = decide (i = j) from by by_cases e : i = j <;> simp [e]]; exact q⟩
theorem r_eqs {s t : Str} (q : Q (.bl (decide (s = t))) H) : rEq (.str s) (.str t) H Q := ⟨rfl, by
  rw [show decide (V.str s = V.str t) = decide (s = t) from by by_cases e : s = t <;> simp [e]]; exact q⟩
theorem r_nes {s t : Str} (q : Q (.bl (!decide (s = t))) H) : rNe (.str s) (.str t) H Q := ⟨rfl, by
  rw [show decide (V.str s = V.str t) = decide (s = t) from by by_cases e : s = t <;> simp [e]]; exact q⟩
theorem r_adds {s t : Str} (hz : s.length + t.length ≤ 1000000) (q : Q (.str (s ++ t)) H) : (fun (x y : V) (H : Hp) (Q : VK) => ∃ i j, x = .str i ∧ y = .str j ∧ i.length + j.length ≤ sizeLine ∧ Q (.str (i ++ j)) H) (.str s) (.str t) H Q := ⟨s, t, rfl, rfl, by rw [sz]; omega, q⟩
theorem r_nonR {A B : Prop} (h : A) : if (!decide (V.ref a = V.non)) = true then A else B := iteT' h
theorem r_nonN {A B : Prop} (h : B) : if (!decide (V.non = V.non)) = true then A else B := iteF' h
theorem r_isR {A B : Prop} (h : B) : if decide (V.ref a = V.non) = true then A else B := iteF' h
theorem r_isNN {A B : Prop} (h : A) : if decide (V.non = V.non) = true then A else B := iteT' h
theorem r_nonI {A B : Prop} (h : A) : if (!decide (V.int i = V.non)) = true then A else B := iteT' h
theorem r_isI {A B : Prop} (h : B) : if decide (V.int i = V.non) = true then A else B := iteF' h
theorem r_eqb {a b : Bool} (q : Q (.bl (decide (a = b))) H) : rEq (.bl a) (.bl b) H Q := ⟨rfl, by
  rw [show decide (V.bl a = V.bl b) = decide (a = b) from by by_cases e : a = b <;> simp [e]]; exact q⟩
theorem r_isS {A B : Prop} {z : Str} (h : B) : if decide (V.str z = V.non) = true then A else B := iteF' h
theorem r_nonS {A B : Prop} {z : Str} (h : A) : if (!decide (V.str z = V.non)) = true then A else B := iteT' h
theorem r_nil (q : QA [] H) : tNil σ H QA := q
theorem r_cons {tr : TA} (h : ta σ H fun x H1 => tr σ H1 fun xs H2 => QA (x :: xs) H2) : tCons ta tr σ H QA := h
theorem r_cb {r : List V → Hp → VK → Prop} {t : TA} (h : t σ H fun vs H1 => r vs H1 Q) : tCB r t σ H Q := h
theorem r_call {sp : Sp} {dvs : List V} {E : XK} {t : TA} (h : t σ H fun vs H1 => sp (vs ++ dvs) H1 Q E) : tCall sp dvs E t σ H Q := h
theorem r_make {C : Addr} {sp : Sp} {dvs : List V} {E : XK} {t : TA} (h : t σ H fun vs H1 => ∀ x dx, H1 x = none → H1 dx = none → dx ≠ x →
  sp (.ref x :: (vs ++ dvs)) (upd (upd H1 dx (.own x)) x (.ins C dx [])) (fun v H2 => v = .non ∧ Q (.ref x) H2) E) : tMake C sp dvs E t σ H Q := h
theorem r_meth {C : Addr} {m : Str} {sp : Sp} {dvs : List V} {E : XK} {t : TA} (h : ta σ H (kMeth C m sp dvs E σ t Q)) : tMeth C m sp dvs E ta t σ H Q := h
theorem r_methL {C : Addr} {dx : Addr} {fs : List (Str × V)} {m : Str} {sp : Sp} {dvs : List V} {E : XK} {t : TA} (h : H a = some (.ins C dx fs)) (hl : fs.lookup m = none) (q : t σ H fun vs H2 => sp (.ref a :: (vs ++ dvs)) H2 Q E) : kMeth C m sp dvs E σ t Q (.ref a) H := ⟨a, dx, fs, rfl, h, hl, q⟩
theorem r_fld {f : Str} (h : ta σ H (kFld K f Q)) : tFld K ta f σ H Q := h
theorem r_fldL {C dx : Addr} {fs : List (Str × V)} {f : Str} (h : H a = some (.ins C dx fs)) (hc : Cls K C) (hn : NoAttr K C f) (hl : fs.lookup f = some v) (q : Q v H) : kFld K f Q (.ref a) H := ⟨a, C, dx, fs, v, rfl, h, hc, hn, hl, q⟩
theorem r_sfld {f : Str} (h : tb σ H fun y H1 => ta σ H1 (kSfld K D σ f y)) : sFld K ta tb f D σ H := h
theorem r_test (h : te σ H (kTest QB)) : tTest te σ H QB := h
theorem r_tB (h : te σ H (kTest QB)) : tB te σ H QB := h
theorem r_exb (q : QB b H) : kTest QB (.bl b) H := ⟨b, rfl, q⟩
theorem r_and (h : ct σ H fun c H1 => if c = true then cu σ H1 QB else QB false H1) : tAnd ct cu σ H QB := h
theorem r_or (h : ct σ H fun c H1 => if c = true then QB true H1 else cu σ H1 QB) : tOr ct cu σ H QB := h
theorem r_not (h : ct σ H fun c H1 => QB (!c) H1) : tNot ct σ H QB := h
theorem r_andV (h : ta σ H fun x H1 => ∃ c, x = .bl c ∧ if c = true then tb σ H1 Q else Q (.bl false) H1) : tAndV ta tb σ H Q := h
theorem r_orV (h : ta σ H fun x H1 => ∃ c, x = .bl c ∧ if c = true then Q (.bl true) H1 else tb σ H1 Q) : tOrV ta tb σ H Q := h
theorem r_exbP {A : Bool → Prop} (q : A b) : ∃ c, V.bl b = .bl c ∧ A c := ⟨b, rfl, q⟩
theorem r_notV (h : ta σ H fun x H1 => ∃ c, x = .bl c ∧ Q (.bl (!c)) H1) : tNotV ta σ H Q := h
theorem r_tif (h : c σ H fun b H1 => if b = true then ta σ H1 Q else tb σ H1 Q) : tIf c ta tb σ H Q := h
theorem r_isN (h : ta σ H fun x H1 => Q (.bl (decide (x = .non))) H1) : tIsN ta σ H Q := h
theorem r_notN (h : ta σ H fun x H1 => Q (.bl (!decide (x = .non))) H1) : tNotN ta σ H Q := h
theorem r_tup {t : TA} (h : t σ H (kTup Q)) : tTup t σ H Q := h
theorem r_lst {t : TA} (h : t σ H (kLst Q)) : tLst t σ H Q := h
theorem r_ktup (hl : xs.length ≤ sizeLine) (h : ∀ p, H p = none → Q (.ref p) (upd H p (.tup xs))) : kTup Q xs H := ⟨hl, h⟩
theorem r_klst (hl : xs.length ≤ sizeLine) (h : ∀ p, H p = none → Q (.ref p) (upd H p (.lst xs))) : kLst Q xs H := ⟨hl, h⟩
theorem r_ixl (h : SqL K H p xs) (e : atI xs i = some v) (q : Q v H) : rIxL K (.ref p) (.int i) H Q := ⟨p, xs, i, v, rfl, rfl, h, e, q⟩
theorem r_ixt (h : SqT K H p xs) (e : atI xs i = some v) (q : Q v H) : rIxT K (.ref p) (.int i) H Q := ⟨p, xs, i, v, rfl, rfl, h, e, q⟩
theorem r_int (q : Q (.int i) H) : rInt [V.int i] H Q := .inl ⟨i, rfl, q⟩
theorem r_lenl (h : SqL K H p xs) (q : Q (.int xs.length) H) : rLen K [V.ref p] H Q := ⟨p, xs, rfl, .inl h, q⟩
theorem r_lent (h : SqT K H p xs) (q : Q (.int xs.length) H) : rLen K [V.ref p] H Q := ⟨p, xs, rfl, .inr h, q⟩
theorem r_listl (h : SqL K H p xs) (q : ∀ l, H l = none → Q (.ref l) (upd H l (.lst xs))) : rListOf K [V.ref p] H Q := ⟨p, xs, rfl, .inl h, q⟩
theorem r_listt (h : SqT K H p xs) (q : ∀ l, H l = none → Q (.ref l) (upd H l (.lst xs))) : rListOf K [V.ref p] H Q := ⟨p, xs, rfl, .inr h, q⟩
theorem r_tupl (h : SqL K H p xs) (q : ∀ l, H l = none → Q (.ref l) (upd H l (.tup xs))) : rTupOf K [V.ref p] H Q := ⟨p, xs, rfl, .inl ⟨h, q⟩⟩
theorem r_tupt (h : SqT K H p xs) (q : Q (.ref p) H) : rTupOf K [V.ref p] H Q := ⟨p, xs, rfl, .inr ⟨h, q⟩⟩
theorem r_in {neg : Bool} (h : SqL K H p xs ∨ SqT K H p xs) (fx : flatV x = true) (fs : xs.all flatV = true) (q : Q (.bl (if neg = true then !inV x xs else inV x xs)) H) : rIn K neg x (.ref p) H Q := ⟨p, xs, rfl, h, fx, fs, q⟩
theorem r_bm {T : String} {r : V → List V → Hp → VK → Prop} {t : TA} (h : ta σ H fun x H1 => tyV K T x H1 ∧ t σ H1 fun xs H2 => r x xs H2 Q) : tBM K T r ta t σ H Q := h
theorem r_bm0 {T : String} {r : V → List V → Hp → VK → Prop} (h : ta σ H fun x H1 => tyV K T x H1 ∧ r x [] H1 Q) : tBM0 K T r ta σ H Q := h
theorem r_tyl {A : Prop} (h : SqL K H l xs) (q : A) : tyV K "list" (.ref l) H ∧ A := ⟨.inl ⟨rfl, _, h⟩, q⟩
theorem r_app (h : H l = some (.lst xs)) (hl : xs.length < sizeLine) (q : Q .non (upd H l (.lst (xs ++ [v])))) : rAppend (.ref l) [v] H Q := ⟨l, xs, v, rfl, rfl, h, hl, q⟩
theorem r_isi {c : V} {t u : Value} (hc : ClsV c u) (ht : TyX K H x t) (hk : PySem.W.kitOne K t u = some b) (q : Q (.bl b) H) : rIsi K [x, c] H Q := ⟨x, c, t, u, b, rfl, hc, ht, hk, q⟩
theorem r_isb {a b : Bool} (q : Q (.bl (decide (a = b))) H) : rIsB (.bl a) (.bl b) H Q := ⟨a, b, rfl, rfl, q⟩
theorem r_notb {a b : Bool} (q : Q (.bl (!decide (a = b))) H) : rNotB (.bl a) (.bl b) H Q := ⟨a, b, rfl, rfl, q⟩
theorem r_eqd {d e : PyData} (h1 : Dp K H x d) (h2 : Dp K H y e) (s1 : SeqAt.shaped d = true) (s2 : SeqAt.shaped e = true) (q : Q (.bl (PyData.eqv d e)) H) : rEqD K x y H Q := ⟨d, e, h1, h2, s1, s2, q⟩
theorem r_ned {d e : PyData} (h1 : Dp K H x d) (h2 : Dp K H y e) (s1 : SeqAt.shaped d = true) (s2 : SeqAt.shaped e = true) (q : Q (.bl (!PyData.eqv d e)) H) : rNeD K x y H Q := ⟨d, e, h1, h2, s1, s2, q⟩
theorem r_rep {k : Int} (h : H l = some (.lst xs)) (h1 : -(2 ^ 63) ≤ k) (h2 : k < 2 ^ 63) (hz : xs.length * k.toNat ≤ sizeLine) (q : ∀ p, H p = none → Q (.ref p) (upd H p (.lst (List.replicate k.toNat xs).flatten))) : rRep (.ref l) (.int k) H Q := ⟨l, k, xs, rfl, rfl, h, h1, h2, hz, q⟩
theorem r_rep1 {k : Int} (h : H l = some (.lst [v])) (h1 : -1000000 ≤ k) (h2 : k ≤ 1000000) (q : ∀ p, H p = none → Q (.ref p) (upd H p (.lst (List.replicate k.toNat v)))) : rRep (.ref l) (.int k) H Q := ⟨l, k, [v], rfl, rfl, h, by omega, by omega, by rw [sz]; show 1 * _ ≤ _; omega, by
  rw [show (List.replicate k.toNat [v]).flatten = List.replicate k.toNat v from by
    generalize k.toNat = n
    induction n with
    | zero => rfl
    | succ n ih => rw [List.replicate_succ, List.flatten_cons, ih, List.replicate_succ]; rfl]
  exact q⟩
theorem r_cat (h : H l = some (.lst xs)) (h' : H p = some (.lst ys)) (hz : xs.length + ys.length ≤ sizeLine) (q : ∀ r, H r = none → Q (.ref r) (upd H r (.lst (xs ++ ys)))) : rCat (.ref l) (.ref p) H Q := ⟨l, p, xs, ys, rfl, rfl, h, h', hz, q⟩
theorem r_aug {n : Nat} {ti : TIp} (h : σ[n]? = some (some x)) (q : te σ H fun y H1 => ti x y H1 fun z H2 => D.nx (σ.set n (some z)) H2) : tAug n te ti D σ H := ⟨x, h, q⟩
theorem r_ipI {f : Int → Int → Int} (q : Q (.int (f i j)) H) : ipI f (.int i) (.int j) H Q := ⟨i, j, rfl, rfl, q⟩
theorem r_sorted {ns : List Int} (h : SqL K H a (ns.map V.int)) (h64 : ns.length < 64) (q : ∀ (ns' : List Int) (p : Addr), ns'.Perm ns → ns'.Pairwise (· ≤ ·) → H p = none → Q (.ref p) (upd H p (.lst (ns'.map V.int)))) : rSorted K [.ref a] H Q := ⟨a, ns, rfl, h, h64, q⟩
end
/-! slices, texts -/
def kPart (Q : Option Int → Hp → Prop) : V → Hp → Prop := fun x H => ∃ i, x = .int i ∧ Q (some i) H
section
variable {σ : L2.St} {H : Hp} {te : TE} {tl th : TO} {Q : V → Hp → Prop} {QO : Option Int → Hp → Prop} {K : PySem.W.Frag} {a : Addr} {xs : List V} {lo hi : Option Int} {i : Int} {z : Str}
theorem r_sl {r : V → Option Int → Option Int → Hp → VK → Prop} (h : te σ H fun x H1 => tl σ H1 fun l H2 => th σ H2 fun u H3 => r x l u H3 Q) : tSl r te tl th σ H Q := h
theorem r_noP (q : QO none H) : tNoPart σ H QO := q
theorem r_part (h : te σ H (kPart QO)) : tPart te σ H QO := h
theorem r_kPart (q : QO (some i) H) : kPart QO (.int i) H := ⟨i, rfl, q⟩
theorem r_slS (hl : z.length ≤ 1000000) (q : Q (.str (cutS z lo hi)) H) : rSlS (.str z) lo hi H Q := ⟨z, rfl, by rw [sz]; omega, q⟩
theorem r_slL (h : SqL K H a xs) (q : ∀ p, H p = none → Q (.ref p) (upd H p (.lst (cutV xs lo hi)))) : rSlL K (.ref a) lo hi H Q := ⟨a, xs, rfl, h, q⟩
end
/-! loops and comprehensions -/
def kLc (g : TG) (tt : TT) (te : TE) (vs : List Nat) (σ : L2.St) (Q : V → Hp → Prop) : It → Hp → Prop := fun J H1 => ∀ D, H1 D = none → ∃ W : Nat → Nat → Hp → Prop, (∃ m, W 0 m (upd H1 D (.lst []))) ∧ ∀ i m H, W i m H →
  (J.stop i H ∧ Q (.ref D) H) ∨ (J.go i H ∧ ∃ Nx : Hp → Prop, (∀ H', Nx H' → ∃ m', m' < m ∧ W (i + 1) m' H') ∧ ∀ x H', J.yld i H x H' → g x (wipe σ vs) H' fun σ2 H2 => wipe σ2 vs = wipe σ vs ∧ tt σ2 H2 fun b H3 =>
    if b = true then te σ2 H3 fun y H4 => ∃ acc, H4 D = some (.lst acc) ∧ acc.length < sizeLine ∧ Nx (upd H4 D (.lst (acc ++ [y]))) else Nx H3)
def kR1 (R : It → Hp → Prop) : List V → Hp → Prop := fun vs H1 => ∃ j : Int, vs = [.int j] ∧ -(2 ^ 62) ≤ j ∧ j < 2 ^ 62 ∧ R (Itr 0 j.toNat) H1
def kR2 (R : It → Hp → Prop) : List V → Hp → Prop := fun vs H1 => ∃ i j : Int, vs = [.int i, .int j] ∧ (-(2 ^ 62) ≤ i ∧ i < 2 ^ 62 ∧ -(2 ^ 62) ≤ j ∧ j < 2 ^ 62) ∧ R (Itr i (j - i).toNat) H1
def kIl (K : PySem.W.Frag) (R : It → Hp → Prop) : V → Hp → Prop := fun x H1 => ∃ a, x = .ref a ∧ (∃ xs, SqL K H1 a xs) ∧ R (Itl K a) H1
def kIt (K : PySem.W.Frag) (R : It → Hp → Prop) : V → Hp → Prop := fun x H1 => ∃ a, x = .ref a ∧ (∃ xs, SqT K H1 a xs) ∧ R (Itt K a) H1
def kFor (g : TG) (tb : TS) (D : Ends) (σ : L2.St) : It → Hp → Prop := fun J H1 => ∃ W : Nat → Nat → L2.St → Hp → Prop, (∃ m, W 0 m σ H1) ∧ ∀ i m σ H, W i m σ H →
  (J.stop i H ∧ D.nx σ H) ∨ (J.go i H ∧ ∃ N : L2.St → Hp → Prop, (∀ σ' H', N σ' H' → ∃ m', m' < m ∧ W (i + 1) m' σ' H') ∧ ∀ x H', J.yld i H x H' → g x σ H' fun σ2 H2 => tb { D with nx := N, ct := N, bk := D.nx } σ2 H2)
section
variable {σ : L2.St} {H : Hp} {D : Ends} {te : TE} {ta : TA} {g : TG} {tt : TT} {tb : TS} {wi : TI} {vs : List Nat} {Q : V → Hp → Prop} {R : It → Hp → Prop} {K : PySem.W.Frag} {a : Addr} {xs : List V} {i j : Int}
theorem r_lc (h : wi σ H (kLc g tt te vs σ Q)) : tLc wi g tt te vs σ H Q := h
theorem r_for (h : wi σ H (kFor g tb D σ)) : tFor wi g tb D σ H := h
theorem r_irng1 (h : ta σ H (kR1 R)) : iRng1 ta σ H R := h
theorem r_irng2 (h : ta σ H (kR2 R)) : iRng2 ta σ H R := h
theorem r_ilist (h : te σ H (kIl K R)) : iList K te σ H R := h
theorem r_itup (h : te σ H (kIt K R)) : iTup K te σ H R := h
theorem r_kR1 (h1 : -(2 ^ 62) ≤ j) (h2 : j < 2 ^ 62) (h : R (Itr 0 j.toNat) H) : kR1 R [.int j] H := ⟨j, rfl, h1, h2, h⟩
theorem r_kR2 (h1 : -(2 ^ 62) ≤ i ∧ i < 2 ^ 62 ∧ -(2 ^ 62) ≤ j ∧ j < 2 ^ 62) (h : R (Itr i (j - i).toNat) H) : kR2 R [.int i, .int j] H := ⟨i, j, rfl, h1, h⟩
theorem r_kIl (h1 : SqL K H a xs) (h : R (Itl K a) H) : kIl K R (.ref a) H := ⟨a, rfl, ⟨_, h1⟩, h⟩
theorem r_kIt (h1 : SqT K H a xs) (h : R (Itt K a) H) : kIt K R (.ref a) H := ⟨a, rfl, ⟨_, h1⟩, h⟩
theorem r_forR {lo : Int} {n : Nat} (Pv : Nat → L2.St → Hp → Prop) (h0 : Pv 0 σ H)
    (hs : ∀ i σ H, i < n → Pv i σ H → g (.int (lo + i)) σ H fun σ2 H2 => tb { D with nx := Pv (i + 1), ct := Pv (i + 1), bk := D.nx } σ2 H2) (hd : ∀ σ H, Pv n σ H → D.nx σ H) : kFor g tb D σ (Itr lo n) H := for_range Pv h0 hs hd
theorem r_forL (Pv : Nat → L2.St → Hp → Prop) (h0 : Pv 0 σ H) (hl : ∀ i σ H, i ≤ xs.length → Pv i σ H → SqL K H a xs)
    (hs : ∀ i x σ H, xs[i]? = some x → Pv i σ H → g x σ H fun σ2 H2 => tb { D with nx := Pv (i + 1), ct := Pv (i + 1), bk := D.nx } σ2 H2) (hd : ∀ σ H, Pv xs.length σ H → D.nx σ H) : kFor g tb D σ (Itl K a) H := for_list Pv h0 hl hs hd
theorem r_forT (Pv : Nat → L2.St → Hp → Prop) (h0 : Pv 0 σ H) (hl : ∀ i σ H, i ≤ xs.length → Pv i σ H → SqT K H a xs)
    (hs : ∀ i x σ H, xs[i]? = some x → Pv i σ H → g x σ H fun σ2 H2 => tb { D with nx := Pv (i + 1), ct := Pv (i + 1), bk := D.nx } σ2 H2) (hd : ∀ σ H, Pv xs.length σ H → D.nx σ H) : kFor g tb D σ (Itt K a) H := for_tup Pv h0 hl hs hd
/-- [e for x in range], e an int -/
theorem r_lcI {lo : Int} {n slot : Nat} (P : Nat → Int → Prop) (hn : n ≤ 100000) (hv : vs = [slot])
    (hs : ∀ (i : Nat) (H' : Hp), i < n → L2.Same H H' → ∀ R : V → Hp → Prop, (∀ z : Int, P i z → R (.int z) H') → te ((wipe σ vs).set slot (some (.int (lo + i)))) H' R)
    (q : ∀ (H' : Hp) (l : Addr) (zs : List Int), L2.Same H H' → H l = none → H' l = some (.lst (zs.map V.int)) → zs.length = n → (∀ (i : Nat) (z : Int), zs[i]? = some z → P i z) → Q (.ref l) H') :
    kLc (gName slot) tYes te vs σ Q (Itr lo n) H := by
  intro L hL
  have hw : ∀ (τ : L2.St) (x : V), wipe (τ.set slot (some x)) [slot] = wipe τ [slot] := fun τ x => by simp [wipe, List.set_set]
  have hw2 : wipe (wipe σ vs) vs = wipe σ vs := by subst hv; simp [wipe, List.set_set]
  refine lc_range (fun i H' => ∃ zs : List Int, zs.length = i ∧ H' L = some (.lst (zs.map V.int)) ∧ L2.Same H H' ∧ ∀ (k : Nat) (z : Int), zs[k]? = some z → P k z) ⟨[], rfl, upd_same, fun b o e => by rw [upd_ne (ne_of_none e hL)]; exact e, fun k z e => by simp at e⟩ ?_ ?_
  · rintro i H' hi ⟨zs, el, eL, s, hp⟩
    refine ⟨?_, ?_⟩
    · subst hv
      rw [hw]
      exact hw2
    · show te ((wipe σ vs).set slot (some (.int (lo + i)))) H' _
      refine hs i H' hi s _ fun z hz => ⟨_, eL, ?_, zs ++ [z], ?_, ?_, ?_, ?_⟩
      · rw [List.length_map, el]
        exact Nat.lt_of_lt_of_le (Nat.lt_of_lt_of_le hi hn) (by decide)
      · rw [List.length_append, el]; rfl
      · rw [upd_same, List.map_append]; rfl
      · intro b o e
        rw [upd_ne (ne_of_none e hL)]
        exact s _ _ e
      · intro k y e
        rw [List.getElem?_append] at e
        split at e
        · exact hp k y e
        · rename_i hk
          have ek : k = zs.length := by
            have := (List.getElem?_eq_some_iff.mp e).1
            simp at this
            omega
          subst ek
          simp at e
          rw [el, ← e]
          exact hz
  · rintro H' ⟨zs, el, eL, s, hp⟩
    exact q H' L zs s hL eL el hp
end
/-! named readings for texts, the lesser and the greater of two -/
def rLenS : List V → Hp → VK → Prop := fun xs H Q => ∃ z, xs = [.str z] ∧ z.length ≤ sizeLine ∧ Q (.int z.length) H
theorem c_lenS {X : Cx} : CallR X (.builtin "len") rLenS := call_len_str
def rMin2 : List V → Hp → VK → Prop := fun xs H Q => ∃ i j, xs = [.int i, .int j] ∧ Q (.int (if j < i then j else i)) H
theorem c_min2 {X : Cx} (hc : X.calm = true) : CallR X (.builtin "min") rMin2 := call_min2 hc
def rMax2 : List V → Hp → VK → Prop := fun xs H Q => ∃ i j, xs = [.int i, .int j] ∧ Q (.int (if j > i then j else i)) H
theorem c_max2 {X : Cx} (hc : X.calm = true) : CallR X (.builtin "max") rMax2 := call_max2 hc
def rAddT : R2 := fun x y H Q => ∃ i j, x = .str i ∧ y = .str j ∧ i.length + j.length ≤ sizeLine ∧ Q (.str (i ++ j)) H
theorem op_addT {X : Cx} : OpR X (binaryOp .Add) rAddT := op_add_str
section
variable {H : Hp} {Q : V → Hp → Prop} {z y : Str} {i j : Int}
theorem r_lenS (hl : z.length ≤ 1000000) (q : Q (.int z.length) H) : rLenS [.str z] H Q := ⟨z, rfl, by rw [sz]; omega, q⟩
theorem r_min2 (q : ∀ m : Int, m ≤ i → m ≤ j → m = i ∨ m = j → Q (.int m) H) : rMin2 [.int i, .int j] H Q := ⟨i, j, rfl, by split <;> exact q _ (by omega) (by omega) (by omega)⟩
theorem r_max2 (q : ∀ m : Int, i ≤ m → j ≤ m → m = i ∨ m = j → Q (.int m) H) : rMax2 [.int i, .int j] H Q := ⟨i, j, rfl, by split <;> exact q _ (by omega) (by omega) (by omega)⟩
theorem r_addT (hl : z.length + y.length ≤ 1000000) (q : Q (.str (z ++ y)) H) : rAddT (.str z) (.str y) H Q := ⟨z, y, rfl, rfl, by rw [sz]; omega, q⟩
end
def kIstr (R : It → Hp → Prop) : V → Hp → Prop := fun x H1 => ∃ z, x = .str z ∧ R (Its z) H1
theorem r_istr {te : TE} {σ : L2.St} {H : Hp} {R : It → Hp → Prop} (h : te σ H (kIstr R)) : iStr te σ H R := h
theorem r_kIs {z : Str} {H : Hp} {R : It → Hp → Prop} (h : R (Its z) H) : kIstr R (.str z) H := ⟨z, rfl, h⟩
end Sg
/-! data behind values, as the heap grows -/
namespace Sg
open PySem L2
mutual
theorem Dp.mono {K : PySem.W.Frag} {H H' : Hp} (s : L2.Same H H') : ∀ (d : PyData) (v : V), Dp K H v d → Dp K H' v d
  | .none, _, h => by cases h; exact .non
  | .bool b, _, h => by cases h; exact .bl b
  | .int i, _, h => by cases h; exact .int i
  | .str x, _, h => by cases h; exact .str x
  | .list ds, _, h => by
    cases h with
    | lst hs ha => exact .lst (L2.Same.seq s hs) (DpAll.mono s ds _ ha)
  | .tuple ds, _, h => by
    cases h with
    | tup hs ha => exact .tup (Sg.Same.tup s hs) (DpAll.mono s ds _ ha)
  | .dict _, _, h => by cases h
theorem DpAll.mono {K : PySem.W.Frag} {H H' : Hp} (s : L2.Same H H') : ∀ (ds : List PyData) (vs : List V), DpAll K H vs ds → DpAll K H' vs ds
  | [], _, h => by cases h; exact .nil
  | d :: ds, _, h => by
    cases h with
    | cons h1 h2 => exact .cons (Dp.mono s d _ h1) (DpAll.mono s ds _ h2)
end
theorem DpAll.ints {K : PySem.W.Frag} {H : Hp} : ∀ ns : List Int, DpAll K H (ns.map V.int) (ns.map PyData.int)
  | [] => .nil
  | n :: ns => .cons (.int n) (DpAll.ints ns)
theorem DpAll.at {K : PySem.W.Frag} {H : Hp} : ∀ {vs : List V} {ds : List PyData}, DpAll K H vs ds → ∀ (i : Nat) (v : V), vs[i]? = some v → ∃ d, ds[i]? = some d ∧ Dp K H v d
  | _, _, .nil, i, v, e => by simp at e
  | _, _, .cons h t, 0, v, e => by simp at e; subst e; exact ⟨_, rfl, h⟩
  | _, _, .cons h t, i + 1, v, e => by
    obtain ⟨d, e1, h1⟩ := DpAll.at t i v (by simpa using e)
    exact ⟨d, by simpa using e1, h1⟩
theorem DpAll.length {K : PySem.W.Frag} {H : Hp} : ∀ {vs : List V} {ds : List PyData}, DpAll K H vs ds → vs.length = ds.length
  | _, _, .nil => rfl
  | _, _, .cons _ t => by simp [DpAll.length t]
/-- data that can be compared, at most n deep -/
def Fl (n : Nat) (d : PyData) : Prop := d.canLay0 = true ∧ d.depth ≤ n
theorem Fl.int (i : Int) (n : Nat) : Fl n (.int i) := ⟨by simp [PyData.canLay0], by simp [PyData.depth]⟩
theorem Fl.non (n : Nat) : Fl n .none := ⟨by simp [PyData.canLay0], by simp [PyData.depth]⟩
theorem Fl.bool (b : Bool) (n : Nat) : Fl n (.bool b) := ⟨by simp [PyData.canLay0], by simp [PyData.depth]⟩
theorem Fl.all {n : Nat} : ∀ {ds : List PyData}, (∀ d ∈ ds, Fl n d) → PyData.canLayAll0 ds = true ∧ PyData.depthAll ds ≤ n
  | [], _ => ⟨by simp [PyData.canLayAll0], by simp [PyData.depthAll]⟩
  | d :: ds, h => by
    obtain ⟨h1, h2⟩ := h d List.mem_cons_self
    obtain ⟨h3, h4⟩ := Fl.all (ds := ds) fun x hx => h x (List.mem_cons_of_mem _ hx)
    refine ⟨by simp [PyData.canLayAll0, h1, h3], ?_⟩
    simp only [PyData.depthAll]
    exact Nat.max_le.mpr ⟨h2, h4⟩
theorem Fl.tup {n : Nat} {ds : List PyData} (h : ∀ d ∈ ds, Fl n d) : Fl (n + 1) (.tuple ds) := by
  obtain ⟨h1, h2⟩ := Fl.all h
  exact ⟨by simp [PyData.canLay0, h1], by simp only [PyData.depth]; omega⟩
theorem Fl.lst {n : Nat} {ds : List PyData} (h : ∀ d ∈ ds, Fl n d) : Fl (n + 1) (.list ds) := by
  obtain ⟨h1, h2⟩ := Fl.all h
  exact ⟨by simp [PyData.canLay0, h1], by simp only [PyData.depth]; omega⟩
theorem Fl.mono {n m : Nat} {d : PyData} (h : Fl n d) (hm : n ≤ m) : Fl m d := ⟨h.1, Nat.le_trans h.2 hm⟩
theorem Fl.ints (ns : List Int) : Fl 1 (.tuple (ns.map PyData.int)) := Fl.tup fun d hd => by
  obtain ⟨i, _, rfl⟩ := List.mem_map.mp hd
  exact Fl.int i 0
theorem Fl.intl (ns : List Int) : Fl 1 (.list (ns.map PyData.int)) := Fl.lst fun d hd => by
  obtain ⟨i, _, rfl⟩ := List.mem_map.mp hd
  exact Fl.int i 0
theorem Fl.nil {n : Nat} : ∀ d ∈ ([] : List PyData), Fl n d := fun d h => by cases h
theorem Fl.cons {n : Nat} {d : PyData} {ds : List PyData} (h : Fl n d) (t : ∀ x ∈ ds, Fl n x) : ∀ x ∈ d :: ds, Fl n x := fun x hx => by
  rcases List.mem_cons.mp hx with rfl | hx
  · exact h
  · exact t x hx
theorem Fl.mapi {n : Nat} {ns : List Int} : ∀ d ∈ ns.map PyData.int, Fl n d := fun d hd => by
  obtain ⟨i, _, rfl⟩ := List.mem_map.mp hd
  exact Fl.int i n
theorem Fl.shaped {n : Nat} {d : PyData} (h : Fl n d) (hn : n ≤ 64 := by decide) : SeqAt.shaped d = true := by
  unfold SeqAt.shaped
  rw [h.1, decide_eq_true (Nat.le_trans h.2 hn)]
  rfl
theorem Fl.self {n : Nat} {d : PyData} (h : Fl n d) : PyData.eqv d d = true := SeqAt.eqv_refl d h.1
/-! lists of ints -/
theorem ixN_ok {n : Nat} {k : Int} (h0 : 0 ≤ k) (h1 : k < n) : ixN n k = some k.toNat := by unfold ixN; rw [if_pos h0, if_pos h1]
theorem at_ints {ts : List Int} {k : Int} (h0 : 0 ≤ k) (h1 : k < ts.length) : atI (ts.map V.int) k = some (.int (ts.getD k.toNat 0)) := by
  obtain ⟨n, rfl⟩ := Int.eq_ofNat_of_zero_le h0
  have hn : n < ts.length := by omega
  refine atI_nat ?_
  rw [List.getElem?_map, List.getElem?_eq_getElem hn, List.getD_eq_getElem?_getD, Int.toNat_natCast, List.getElem?_eq_getElem hn]
  rfl
theorem rep_ints (n : Nat) (z : Int) : (List.replicate n [V.int z]).flatten = (List.replicate n z).map V.int := by
  induction n with
  | zero => rfl
  | succ n ih => rw [List.replicate_succ, List.flatten_cons, ih, List.replicate_succ, List.map_cons]; rfl
theorem set_ints (ts : List Int) (n : Nat) (z : Int) : (ts.map V.int).set n (.int z) = (ts.set n z).map V.int := by rw [List.map_set]
theorem eqv_ints {as bs : List Int} : PyData.eqv (.list (as.map PyData.int)) (.list (bs.map PyData.int)) = decide (as = bs) := by
  rw [PyData.eqv]
  induction as generalizing bs with
  | nil => cases bs <;> simp [PyData.eqvAll]
  | cons a as ih =>
    cases bs with
    | nil => simp [PyData.eqvAll]
    | cons b bs =>
      rw [List.map_cons, List.map_cons, PyData.eqvAll, ih, PyData.eqv]
      by_cases e : a = b
      · subst e; simp
      · simp [e]
theorem Dp.ints {K : PySem.W.Frag} {H : Hp} {a : Addr} {ns : List Int} (h : SqL K H a (ns.map V.int)) : Dp K H (.ref a) (.list (ns.map PyData.int)) := .lst h (DpAll.ints ns)
theorem Fl.intlS (ns : List Int) : SeqAt.shaped (.list (ns.map PyData.int)) = true := (Fl.intl ns).shaped
/-! a comprehension over a list, its items anything -/
/-- the heap without the list that grows -/
def hid (D : Addr) (H : Hp) : Hp := fun b => if b = D then none else H b
theorem hid_ne {D b : Addr} {H : Hp} (h : b ≠ D) : hid D H b = H b := by unfold hid; rw [if_neg h]
theorem hid_at {D : Addr} {H : Hp} : hid D H D = none := by unfold hid; rw [if_pos rfl]
theorem hid_same {D : Addr} {H : Hp} : L2.Same (hid D H) H := fun b o e => by
  by_cases hb : b = D
  · rw [hb, hid_at] at e; cases e
  · rw [hid_ne hb] at e; exact e
theorem of_hid {D b : Addr} {H : Hp} {o : HO} (e : hid D H b = some o) : b ≠ D ∧ H b = some o := by
  by_cases hb : b = D
  · rw [hb, hid_at] at e; cases e
  · rw [hid_ne hb] at e; exact ⟨hb, e⟩
theorem same_hid {D : Addr} {H H' : Hp} (s : L2.Same H H') (n : H D = none) : L2.Same H (hid D H') := fun b o e => by
  rw [hid_ne (ne_of_none e n)]; exact s _ _ e
theorem hid_upd {D : Addr} {H : Hp} {o : HO} : hid D (upd H D o) = hid D H := by
  funext b
  by_cases hb : b = D
  · rw [hb, hid_at, hid_at]
  · rw [hid_ne hb, hid_ne hb, upd_ne hb]
theorem hid_none {D : Addr} {H : Hp} (n : H D = none) : hid D H = H := by
  funext b
  by_cases hb : b = D
  · rw [hb, hid_at, n]
  · rw [hid_ne hb]
theorem r_lcL {K : PySem.W.Frag} {a : Addr} {xs : List V} {slot : Nat} {vs : List Nat} {te : TE} {σ : L2.St} {H : Hp} {Q : V → Hp → Prop} (P : Nat → List V → Hp → Prop) (hx : SqL K H a xs) (hn : xs.length ≤ 100000) (hv : vs = [slot])
    (h0 : P 0 [] H)
    (hs : ∀ (i : Nat) (x : V) (acc : List V) (H0 H' : Hp), xs[i]? = some x → L2.Same H H0 → P i acc H0 → L2.Same H0 H' → ∀ R : V → Hp → Prop,
      (∀ (v : V) (H'' : Hp), L2.Same H' H'' → (∀ D, H0 D = none → H' D ≠ none → P (i + 1) (acc ++ [v]) (hid D H'')) → R v H'') → te ((wipe σ vs).set slot (some x)) H' R)
    (q : ∀ (H' : Hp) (l : Addr) (acc : List V), L2.Same H H' → H l = none → H' l = some (.lst acc) → acc.length = xs.length → P xs.length acc (hid l H') → Q (.ref l) H') :
    kLc (gName slot) tYes te vs σ Q (Itl K a) H := by
  intro L hL
  have hw : ∀ (τ : L2.St) (x : V), wipe (τ.set slot (some x)) [slot] = wipe τ [slot] := fun τ x => by simp [wipe, List.set_set]
  have hw2 : wipe (wipe σ vs) vs = wipe σ vs := by subst hv; simp [wipe, List.set_set]
  refine lc_list (xs := xs) (fun i H' => ∃ acc : List V, acc.length = i ∧ H' L = some (.lst acc) ∧ L2.Same H H' ∧ P i acc (hid L H')) ⟨[], rfl, upd_same, fun b o e => by rw [upd_ne (ne_of_none e hL)]; exact e, by rw [hid_upd, hid_none hL]; exact h0⟩ ?_ ?_ ?_
  · rintro i H' hi ⟨acc, _, _, s, _⟩
    exact s.seq hx
  · rintro i x H' hi ⟨acc, el, eL, s, hp⟩
    refine ⟨?_, ?_⟩
    · subst hv
      rw [hw]
      exact hw2
    · show te ((wipe σ vs).set slot (some x)) H' _
      refine hs i x acc (hid L H') H' hi (same_hid s hL) hp hid_same _ fun v H'' s2 hP => ⟨acc, s2 _ _ eL, ?_, acc ++ [v], ?_, upd_same, ?_, ?_⟩
      · have := (List.getElem?_eq_some_iff.mp hi).1
        rw [el, sz]
        omega
      · rw [List.length_append, el]; rfl
      · intro b o e
        rw [upd_ne (ne_of_none e hL)]
        exact s2 _ _ (s _ _ e)
      · rw [hid_upd]
        exact hP L hid_at (by rw [eL]; intro z; cases z)
  · rintro H' ⟨acc, el, eL, s, hp⟩
    exact q H' L acc s hL eL el hp
end Sg
namespace Sg
open PySem L2
def top (i : Nat) : Stmt := PySem.Challenge.pw_segmentfs_k66_damaged_octets.main.body.getD i (.Pass ⟨0, 0, 0, 0⟩)
abbrev s_Layout___init : Stmt := inClass (top 11) 0
abbrev s_parts_of : Stmt := top 12
abbrev s_number_octets : Stmt := top 14
abbrev s_number_of : Stmt := top 15
abbrev s_filled : Stmt := top 17
abbrev s_pieces : Stmt := top 18
abbrev s_block_octets : Stmt := top 23
abbrev s_read_block : Stmt := top 24
abbrev s_is_damaged : Stmt := top 25
abbrev s_body_octets : Stmt := top 26
abbrev s_read_body : Stmt := top 27
abbrev s_read_commit : Stmt := top 28
abbrev s_read_listed : Stmt := top 29
abbrev s_summary_head : Stmt := top 30
abbrev s_pairs : Stmt := top 31
abbrev s_read_pairs : Stmt := top 32
abbrev s_bits : Stmt := top 33
abbrev s_read_bits : Stmt := top 34
abbrev s_law_number : Stmt := top 36
abbrev s_law_take : Stmt := top 37
abbrev s_law_layout : Stmt := top 38
abbrev s_law_octets : Stmt := top 39
abbrev s_law_pairs : Stmt := top 40
abbrev s_law_bits : Stmt := top 41
abbrev s_law_body : Stmt := top 42
abbrev s_law_written : Stmt := top 43
abbrev s_law_numbers : Stmt := top 44
abbrev s_law_used : Stmt := top 45
abbrev s_law_block : Stmt := top 46
abbrev s_law_is_number : Stmt := top 47
abbrev s_law_is_row : Stmt := top 48
abbrev s_law_is_block : Stmt := top 49
abbrev s_law_list : Stmt := top 51
abbrev s_law_commit : Stmt := top 52
abbrev s_law_read : Stmt := top 53
abbrev s_law : Stmt := top 54
abbrev n_Layout___init : List Str := ["self", "segments", "segment_blocks", "block_size"]
theorem sc_Layout___init : FnScope n_Layout___init ["self", "segments", "segment_blocks", "block_size"] (defScope s_Layout___init) := ⟨rfl, rfl, rfl, by decide +kernel, rfl, by decide +kernel, by decide +kernel⟩
abbrev n_parts_of : List Str := ["number", "size"]
theorem sc_parts_of : FnScope n_parts_of ["number", "size"] (defScope s_parts_of) := ⟨rfl, rfl, rfl, by decide +kernel, rfl, by decide +kernel, by decide +kernel⟩
abbrev n_number_octets : List Str := ["number", "count", "place"]
theorem sc_number_octets : FnScope n_number_octets ["number", "count"] (defScope s_number_octets) := ⟨rfl, rfl, rfl, by decide +kernel, rfl, by decide +kernel, by decide +kernel⟩
abbrev n_number_of : List Str := ["octets", "number", "octet"]
theorem sc_number_of : FnScope n_number_of ["octets"] (defScope s_number_of) := ⟨rfl, rfl, rfl, by decide +kernel, rfl, by decide +kernel, by decide +kernel⟩
abbrev n_filled : List Str := ["numbers", "count"]
theorem sc_filled : FnScope n_filled ["numbers", "count"] (defScope s_filled) := ⟨rfl, rfl, rfl, by decide +kernel, rfl, by decide +kernel, by decide +kernel⟩
abbrev n_pieces : List Str := ["numbers", "size", "start"]
theorem sc_pieces : FnScope n_pieces ["numbers", "size"] (defScope s_pieces) := ⟨rfl, rfl, rfl, by decide +kernel, rfl, by decide +kernel, by decide +kernel⟩
abbrev n_block_octets : List Str := ["layout", "block", "kind", "sequence", "rank", "body", "spare"]
theorem sc_block_octets : FnScope n_block_octets ["layout", "block"] (defScope s_block_octets) := ⟨rfl, rfl, rfl, by decide +kernel, rfl, by decide +kernel, by decide +kernel⟩
abbrev n_read_block : List Str := ["layout", "octets", "body", "block"]
theorem sc_read_block : FnScope n_read_block ["layout", "octets"] (defScope s_read_block) := ⟨rfl, rfl, rfl, by decide +kernel, rfl, by decide +kernel, by decide +kernel⟩
abbrev n_is_damaged : List Str := ["layout", "octets"]
theorem sc_is_damaged : FnScope n_is_damaged ["layout", "octets"] (defScope s_is_damaged) := ⟨rfl, rfl, rfl, by decide +kernel, rfl, by decide +kernel, by decide +kernel⟩
abbrev n_body_octets : List Str := ["layout", "kind", "body", "ids", "used", "action", "head"]
theorem sc_body_octets : FnScope n_body_octets ["layout", "kind", "body"] (defScope s_body_octets) := ⟨rfl, rfl, rfl, by decide +kernel, rfl, by decide +kernel, by decide +kernel⟩
abbrev n_read_body : List Str := ["layout", "kind", "octets"]
theorem sc_read_body : FnScope n_read_body ["layout", "kind", "octets"] (defScope s_read_body) := ⟨rfl, rfl, rfl, by decide +kernel, rfl, by decide +kernel, by decide +kernel⟩
abbrev n_read_commit : List Str := ["layout", "octets", "ids", "action"]
theorem sc_read_commit : FnScope n_read_commit ["layout", "octets"] (defScope s_read_commit) := ⟨rfl, rfl, rfl, by decide +kernel, rfl, by decide +kernel, by decide +kernel⟩
abbrev n_read_listed : List Str := ["layout", "octets", "count"]
theorem sc_read_listed : FnScope n_read_listed ["layout", "octets"] (defScope s_read_listed) := ⟨rfl, rfl, rfl, by decide +kernel, rfl, by decide +kernel, by decide +kernel⟩
abbrev n_summary_head : List Str := ["kind", "count"]
theorem sc_summary_head : FnScope n_summary_head ["kind", "count"] (defScope s_summary_head) := ⟨rfl, rfl, rfl, by decide +kernel, rfl, by decide +kernel, by decide +kernel⟩
abbrev n_pairs : List Str := ["numbers", "octets", "number"]
theorem sc_pairs : FnScope n_pairs ["numbers"] (defScope s_pairs) := ⟨rfl, rfl, rfl, by decide +kernel, rfl, by decide +kernel, by decide +kernel⟩
abbrev n_read_pairs : List Str := ["octets", "pair"]
theorem sc_read_pairs : FnScope n_read_pairs ["octets"] (defScope s_read_pairs) := ⟨rfl, rfl, rfl, by decide +kernel, rfl, by decide +kernel, by decide +kernel⟩
abbrev n_bits : List Str := ["layout", "used", "in_use", "octets", "place"]
theorem sc_bits : FnScope n_bits ["layout", "used"] (defScope s_bits) := ⟨rfl, rfl, rfl, by decide +kernel, rfl, by decide +kernel, by decide +kernel⟩
abbrev n_read_bits : List Str := ["layout", "octets", "place"]
theorem sc_read_bits : FnScope n_read_bits ["layout", "octets"] (defScope s_read_bits) := ⟨rfl, rfl, rfl, by decide +kernel, rfl, by decide +kernel, by decide +kernel⟩
abbrev n_law_number : List Str := ["script", "k", "cell", "first", "second"]
theorem sc_law_number : FnScope n_law_number ["script", "k"] (defScope s_law_number) := ⟨rfl, rfl, rfl, by decide +kernel, rfl, by decide +kernel, by decide +kernel⟩
abbrev n_law_take : List Str := ["box", "size", "digit"]
theorem sc_law_take : FnScope n_law_take ["box", "size"] (defScope s_law_take) := ⟨rfl, rfl, rfl, by decide +kernel, rfl, by decide +kernel, by decide +kernel⟩
abbrev n_law_layout : List Str := ["digit", "sizes", "row"]
theorem sc_law_layout : FnScope n_law_layout ["digit"] (defScope s_law_layout) := ⟨rfl, rfl, rfl, by decide +kernel, rfl, by decide +kernel, by decide +kernel⟩
abbrev n_law_octets : List Str := ["number", "count", "row", "k"]
theorem sc_law_octets : FnScope n_law_octets ["number", "count"] (defScope s_law_octets) := ⟨rfl, rfl, rfl, by decide +kernel, rfl, by decide +kernel, by decide +kernel⟩
abbrev n_law_pairs : List Str := ["numbers", "count", "row", "number"]
theorem sc_law_pairs : FnScope n_law_pairs ["numbers", "count"] (defScope s_law_pairs) := ⟨rfl, rfl, rfl, by decide +kernel, rfl, by decide +kernel, by decide +kernel⟩
abbrev n_law_bits : List Str := ["used", "last", "row", "ident", "weight", "k"]
theorem sc_law_bits : FnScope n_law_bits ["used", "last"] (defScope s_law_bits) := ⟨rfl, rfl, rfl, by decide +kernel, rfl, by decide +kernel, by decide +kernel⟩
abbrev n_law_body : List Str := ["layout", "kind", "body", "payload", "row"]
theorem sc_law_body : FnScope n_law_body ["layout", "kind", "body"] (defScope s_law_body) := ⟨rfl, rfl, rfl, by decide +kernel, rfl, by decide +kernel, by decide +kernel⟩
abbrev n_law_written : List Str := ["layout", "block", "row"]
theorem sc_law_written : FnScope n_law_written ["layout", "block"] (defScope s_law_written) := ⟨rfl, rfl, rfl, by decide +kernel, rfl, by decide +kernel, by decide +kernel⟩
abbrev n_law_numbers : List Str := ["box", "count", "bound", "seed", "row", "k"]
theorem sc_law_numbers : FnScope n_law_numbers ["box", "count", "bound"] (defScope s_law_numbers) := ⟨rfl, rfl, rfl, by decide +kernel, rfl, by decide +kernel, by decide +kernel⟩
abbrev n_law_used : List Str := ["box", "last", "step", "ident", "row"]
theorem sc_law_used : FnScope n_law_used ["box", "last"] (defScope s_law_used) := ⟨rfl, rfl, rfl, by decide +kernel, rfl, by decide +kernel, by decide +kernel⟩
abbrev n_law_block : List Str := ["layout", "box", "kind", "sequence", "rank", "payload", "ids", "used"]
theorem sc_law_block : FnScope n_law_block ["layout", "box"] (defScope s_law_block) := ⟨rfl, rfl, rfl, by decide +kernel, rfl, by decide +kernel, by decide +kernel⟩
abbrev n_law_is_number : List Str := ["actual"]
theorem sc_law_is_number : FnScope n_law_is_number ["actual"] (defScope s_law_is_number) := ⟨rfl, rfl, rfl, by decide +kernel, rfl, by decide +kernel, by decide +kernel⟩
abbrev n_law_is_row : List Str := ["actual", "item"]
theorem sc_law_is_row : FnScope n_law_is_row ["actual"] (defScope s_law_is_row) := ⟨rfl, rfl, rfl, by decide +kernel, rfl, by decide +kernel, by decide +kernel⟩
abbrev n_law_is_block : List Str := ["actual"]
theorem sc_law_is_block : FnScope n_law_is_block ["actual"] (defScope s_law_is_block) := ⟨rfl, rfl, rfl, by decide +kernel, rfl, by decide +kernel, by decide +kernel⟩
abbrev n_law_list : List Str := ["octets", "count", "row", "k"]
theorem sc_law_list : FnScope n_law_list ["octets", "count"] (defScope s_law_list) := ⟨rfl, rfl, rfl, by decide +kernel, rfl, by decide +kernel, by decide +kernel⟩
abbrev n_law_commit : List Str := ["layout", "row", "payload", "count", "last", "used", "ident", "octet", "k"]
theorem sc_law_commit : FnScope n_law_commit ["layout", "row"] (defScope s_law_commit) := ⟨rfl, rfl, rfl, by decide +kernel, rfl, by decide +kernel, by decide +kernel⟩
abbrev n_law_read : List Str := ["layout", "octets", "kind", "row", "body", "sequence", "k", "block"]
theorem sc_law_read : FnScope n_law_read ["layout", "octets"] (defScope s_law_read) := ⟨rfl, rfl, rfl, by decide +kernel, rfl, by decide +kernel, by decide +kernel⟩
abbrev n_law : List Str := ["script", "box", "layout", "block", "octets", "width", "place", "due", "given", "back", "damaged", "blank", "octet"]
theorem sc_law : FnScope n_law ["script"] (defScope s_law) := ⟨rfl, rfl, rfl, by decide +kernel, rfl, by decide +kernel, by decide +kernel⟩
structure Txt (K : PySem.W.Frag) (mg : Str → Option Value) where
  a_Layout___init : Addr
  fd_Layout___init : FuncData
  a_parts_of : Addr
  fd_parts_of : FuncData
  a_number_octets : Addr
  fd_number_octets : FuncData
  a_number_of : Addr
  fd_number_of : FuncData
  a_filled : Addr
  fd_filled : FuncData
  a_pieces : Addr
  fd_pieces : FuncData
  a_block_octets : Addr
  fd_block_octets : FuncData
  a_read_block : Addr
  fd_read_block : FuncData
  a_is_damaged : Addr
  fd_is_damaged : FuncData
  a_body_octets : Addr
  fd_body_octets : FuncData
  a_read_body : Addr
  fd_read_body : FuncData
  a_read_commit : Addr
  fd_read_commit : FuncData
  a_read_listed : Addr
  fd_read_listed : FuncData
  a_summary_head : Addr
  fd_summary_head : FuncData
  a_pairs : Addr
  fd_pairs : FuncData
  a_read_pairs : Addr
  fd_read_pairs : FuncData
  a_bits : Addr
  fd_bits : FuncData
  a_read_bits : Addr
  fd_read_bits : FuncData
  a_law_number : Addr
  fd_law_number : FuncData
  a_law_take : Addr
  fd_law_take : FuncData
  a_law_layout : Addr
  fd_law_layout : FuncData
  a_law_octets : Addr
  fd_law_octets : FuncData
  a_law_pairs : Addr
  fd_law_pairs : FuncData
  a_law_bits : Addr
  fd_law_bits : FuncData
  a_law_body : Addr
  fd_law_body : FuncData
  a_law_written : Addr
  fd_law_written : FuncData
  a_law_numbers : Addr
  fd_law_numbers : FuncData
  a_law_used : Addr
  fd_law_used : FuncData
  a_law_block : Addr
  fd_law_block : FuncData
  a_law_is_number : Addr
  fd_law_is_number : FuncData
  a_law_is_row : Addr
  fd_law_is_row : FuncData
  a_law_is_block : Addr
  fd_law_is_block : FuncData
  a_law_list : Addr
  fd_law_list : FuncData
  a_law_commit : Addr
  fd_law_commit : FuncData
  a_law_read : Addr
  fd_law_read : FuncData
  a_law : Addr
  fd_law : FuncData
  A_Layout : Addr
  a_BLOCK_SIZES : Addr
  t_COMMIT : Tok
  t_DATA : Tok
  a_LETTERS : Addr
  t_MOST_ACTION : Tok
  t_MOVE : Tok
  t_NODE : Tok
  t_PART : Tok
  t_SPARE_OCTETS : Tok
  t_SUMMARY_HEAD : Tok
  F_Layout___init : Fun K "__init__" "Layout.__init__" s_Layout___init a_Layout___init fd_Layout___init
  b_Layout___init : Binds K fd_Layout___init ["self", "segments", "segment_blocks", "block_size"] []
  F_parts_of : Fun K "parts_of" "parts_of" s_parts_of a_parts_of fd_parts_of
  b_parts_of : Binds K fd_parts_of ["number", "size"] []
  m_parts_of : mg "parts_of" = some (.ref a_parts_of)
  F_number_octets : Fun K "number_octets" "number_octets" s_number_octets a_number_octets fd_number_octets
  b_number_octets : Binds K fd_number_octets ["number", "count"] []
  m_number_octets : mg "number_octets" = some (.ref a_number_octets)
  F_number_of : Fun K "number_of" "number_of" s_number_of a_number_of fd_number_of
  b_number_of : Binds K fd_number_of ["octets"] []
  m_number_of : mg "number_of" = some (.ref a_number_of)
  F_filled : Fun K "filled" "filled" s_filled a_filled fd_filled
  b_filled : Binds K fd_filled ["numbers", "count"] []
  m_filled : mg "filled" = some (.ref a_filled)
  F_pieces : Fun K "pieces" "pieces" s_pieces a_pieces fd_pieces
  b_pieces : Binds K fd_pieces ["numbers", "size"] []
  m_pieces : mg "pieces" = some (.ref a_pieces)
  F_block_octets : Fun K "block_octets" "block_octets" s_block_octets a_block_octets fd_block_octets
  b_block_octets : Binds K fd_block_octets ["layout", "block"] []
  m_block_octets : mg "block_octets" = some (.ref a_block_octets)
  F_read_block : Fun K "read_block" "read_block" s_read_block a_read_block fd_read_block
  b_read_block : Binds K fd_read_block ["layout", "octets"] []
  m_read_block : mg "read_block" = some (.ref a_read_block)
  F_is_damaged : Fun K "is_damaged" "is_damaged" s_is_damaged a_is_damaged fd_is_damaged
  b_is_damaged : Binds K fd_is_damaged ["layout", "octets"] []
  m_is_damaged : mg "is_damaged" = some (.ref a_is_damaged)
  F_body_octets : Fun K "_body_octets" "_body_octets" s_body_octets a_body_octets fd_body_octets
  b_body_octets : Binds K fd_body_octets ["layout", "kind", "body"] []
  m_body_octets : mg "_body_octets" = some (.ref a_body_octets)
  F_read_body : Fun K "_read_body" "_read_body" s_read_body a_read_body fd_read_body
  b_read_body : Binds K fd_read_body ["layout", "kind", "octets"] []
  m_read_body : mg "_read_body" = some (.ref a_read_body)
  F_read_commit : Fun K "_read_commit" "_read_commit" s_read_commit a_read_commit fd_read_commit
  b_read_commit : Binds K fd_read_commit ["layout", "octets"] []
  m_read_commit : mg "_read_commit" = some (.ref a_read_commit)
  F_read_listed : Fun K "_read_listed" "_read_listed" s_read_listed a_read_listed fd_read_listed
  b_read_listed : Binds K fd_read_listed ["layout", "octets"] []
  m_read_listed : mg "_read_listed" = some (.ref a_read_listed)
  F_summary_head : Fun K "_summary_head" "_summary_head" s_summary_head a_summary_head fd_summary_head
  b_summary_head : Binds K fd_summary_head ["kind", "count"] []
  m_summary_head : mg "_summary_head" = some (.ref a_summary_head)
  F_pairs : Fun K "_pairs" "_pairs" s_pairs a_pairs fd_pairs
  b_pairs : Binds K fd_pairs ["numbers"] []
  m_pairs : mg "_pairs" = some (.ref a_pairs)
  F_read_pairs : Fun K "_read_pairs" "_read_pairs" s_read_pairs a_read_pairs fd_read_pairs
  b_read_pairs : Binds K fd_read_pairs ["octets"] []
  m_read_pairs : mg "_read_pairs" = some (.ref a_read_pairs)
  F_bits : Fun K "_bits" "_bits" s_bits a_bits fd_bits
  b_bits : Binds K fd_bits ["layout", "used"] []
  m_bits : mg "_bits" = some (.ref a_bits)
  F_read_bits : Fun K "_read_bits" "_read_bits" s_read_bits a_read_bits fd_read_bits
  b_read_bits : Binds K fd_read_bits ["layout", "octets"] []
  m_read_bits : mg "_read_bits" = some (.ref a_read_bits)
  F_law_number : Fun K "_law_number" "_law_number" s_law_number a_law_number fd_law_number
  b_law_number : Binds K fd_law_number ["script", "k"] []
  m_law_number : mg "_law_number" = some (.ref a_law_number)
  F_law_take : Fun K "_law_take" "_law_take" s_law_take a_law_take fd_law_take
  b_law_take : Binds K fd_law_take ["box", "size"] []
  m_law_take : mg "_law_take" = some (.ref a_law_take)
  F_law_layout : Fun K "_law_layout" "_law_layout" s_law_layout a_law_layout fd_law_layout
  b_law_layout : Binds K fd_law_layout ["digit"] []
  m_law_layout : mg "_law_layout" = some (.ref a_law_layout)
  F_law_octets : Fun K "_law_octets" "_law_octets" s_law_octets a_law_octets fd_law_octets
  b_law_octets : Binds K fd_law_octets ["number", "count"] []
  m_law_octets : mg "_law_octets" = some (.ref a_law_octets)
  F_law_pairs : Fun K "_law_pairs" "_law_pairs" s_law_pairs a_law_pairs fd_law_pairs
  b_law_pairs : Binds K fd_law_pairs ["numbers", "count"] []
  m_law_pairs : mg "_law_pairs" = some (.ref a_law_pairs)
  F_law_bits : Fun K "_law_bits" "_law_bits" s_law_bits a_law_bits fd_law_bits
  b_law_bits : Binds K fd_law_bits ["used", "last"] []
  m_law_bits : mg "_law_bits" = some (.ref a_law_bits)
  F_law_body : Fun K "_law_body" "_law_body" s_law_body a_law_body fd_law_body
  b_law_body : Binds K fd_law_body ["layout", "kind", "body"] []
  m_law_body : mg "_law_body" = some (.ref a_law_body)
  F_law_written : Fun K "_law_written" "_law_written" s_law_written a_law_written fd_law_written
  b_law_written : Binds K fd_law_written ["layout", "block"] []
  m_law_written : mg "_law_written" = some (.ref a_law_written)
  F_law_numbers : Fun K "_law_numbers" "_law_numbers" s_law_numbers a_law_numbers fd_law_numbers
  b_law_numbers : Binds K fd_law_numbers ["box", "count", "bound"] []
  m_law_numbers : mg "_law_numbers" = some (.ref a_law_numbers)
  F_law_used : Fun K "_law_used" "_law_used" s_law_used a_law_used fd_law_used
  b_law_used : Binds K fd_law_used ["box", "last"] []
  m_law_used : mg "_law_used" = some (.ref a_law_used)
  F_law_block : Fun K "_law_block" "_law_block" s_law_block a_law_block fd_law_block
  b_law_block : Binds K fd_law_block ["layout", "box"] []
  m_law_block : mg "_law_block" = some (.ref a_law_block)
  F_law_is_number : Fun K "_law_is_number" "_law_is_number" s_law_is_number a_law_is_number fd_law_is_number
  b_law_is_number : Binds K fd_law_is_number ["actual"] []
  m_law_is_number : mg "_law_is_number" = some (.ref a_law_is_number)
  F_law_is_row : Fun K "_law_is_row" "_law_is_row" s_law_is_row a_law_is_row fd_law_is_row
  b_law_is_row : Binds K fd_law_is_row ["actual"] []
  m_law_is_row : mg "_law_is_row" = some (.ref a_law_is_row)
  F_law_is_block : Fun K "_law_is_block" "_law_is_block" s_law_is_block a_law_is_block fd_law_is_block
  b_law_is_block : Binds K fd_law_is_block ["actual"] []
  m_law_is_block : mg "_law_is_block" = some (.ref a_law_is_block)
  F_law_list : Fun K "_law_list" "_law_list" s_law_list a_law_list fd_law_list
  b_law_list : Binds K fd_law_list ["octets", "count"] []
  m_law_list : mg "_law_list" = some (.ref a_law_list)
  F_law_commit : Fun K "_law_commit" "_law_commit" s_law_commit a_law_commit fd_law_commit
  b_law_commit : Binds K fd_law_commit ["layout", "row"] []
  m_law_commit : mg "_law_commit" = some (.ref a_law_commit)
  F_law_read : Fun K "_law_read" "_law_read" s_law_read a_law_read fd_law_read
  b_law_read : Binds K fd_law_read ["layout", "octets"] []
  m_law_read : mg "_law_read" = some (.ref a_law_read)
  F_law : Fun K "law" "law" s_law a_law fd_law
  b_law : Binds K fd_law ["script"] []
  m_law : mg "law" = some (.ref a_law)
  m_Layout : mg "Layout" = some (.ref A_Layout)
  cl_Layout : Cls K A_Layout
  M_Layout : Mk K A_Layout a_Layout___init
  na_Layout_segments : NoAttr K A_Layout "segments"
  na_Layout_segment_blocks : NoAttr K A_Layout "segment_blocks"
  na_Layout_block_size : NoAttr K A_Layout "block_size"
  na_Layout_payload : NoAttr K A_Layout "payload"
  na_Layout_limit : NoAttr K A_Layout "limit"
  na_Layout_last_id : NoAttr K A_Layout "last_id"
  na_Layout_fan : NoAttr K A_Layout "fan"
  na_Layout_region_blocks : NoAttr K A_Layout "region_blocks"
  na_Layout_device_blocks : NoAttr K A_Layout "device_blocks"
  c_BLOCK_SIZES : mg "BLOCK_SIZES" = some (.ref a_BLOCK_SIZES)
  r_BLOCK_SIZES : RelV (.ref a_BLOCK_SIZES) (.ref a_BLOCK_SIZES)
  v_BLOCK_SIZES : ∀ H : Hp, SqT K H a_BLOCK_SIZES [.int 64, .int 128, .int 256]
  c_COMMIT : mg "COMMIT" = some (.int 1 t_COMMIT)
  r_COMMIT : RelV (.int 1) (.int 1 t_COMMIT)
  c_DATA : mg "DATA" = some (.int 3 t_DATA)
  r_DATA : RelV (.int 3) (.int 3 t_DATA)
  c_LETTERS : mg "LETTERS" = some (.ref a_LETTERS)
  r_LETTERS : RelV (.ref a_LETTERS) (.ref a_LETTERS)
  v_LETTERS : ∀ H : Hp, SqT K H a_LETTERS [.int 83, .int 71, .int 70, .int 83]
  c_MOST_ACTION : mg "MOST_ACTION" = some (.int 6 t_MOST_ACTION)
  r_MOST_ACTION : RelV (.int 6) (.int 6 t_MOST_ACTION)
  c_MOVE : mg "MOVE" = some (.int 2 t_MOVE)
  r_MOVE : RelV (.int 2) (.int 2 t_MOVE)
  c_NODE : mg "NODE" = some (.int 4 t_NODE)
  r_NODE : RelV (.int 4) (.int 4 t_NODE)
  c_PART : mg "PART" = some (.int 5 t_PART)
  r_PART : RelV (.int 5) (.int 5 t_PART)
  c_SPARE_OCTETS : mg "SPARE_OCTETS" = some (.int 16 t_SPARE_OCTETS)
  r_SPARE_OCTETS : RelV (.int 16) (.int 16 t_SPARE_OCTETS)
  c_SUMMARY_HEAD : mg "SUMMARY_HEAD" = some (.int 16 t_SUMMARY_HEAD)
  r_SUMMARY_HEAD : RelV (.int 16) (.int 16 t_SUMMARY_HEAD)
  n_any : mg "any" = none
  n_bool : mg "bool" = none
  n_int : mg "int" = none
  n_isinstance : mg "isinstance" = none
  n_len : mg "len" = none
  n_list : mg "list" = none
  n_range : mg "range" = none
  n_reversed : mg "reversed" = none
  n_set : mg "set" = none
  n_tuple : mg "tuple" = none
end Sg
namespace Sg
open PySem L2
local macro_rules | `(tactic| walk_at "size") => `(tactic| first | ((simp only [List.length_append, List.length_cons, List.length_nil, List.length_map, Sg.sz]) <;> omega) | (rw [Sg.sz]; simp <;> omega))
local macro_rules | `(tactic| walk_at "side") => `(tactic| first | with_reducible rfl | with_reducible assumption | (show (_ : Int) < _; omega) | omega | (simp only [List.length_map]; omega) | assumption | rfl | decide | exact Or.inr ⟨by decide, by decide⟩ | exact Or.inl ⟨by decide, by decide⟩ | exact Or.inr ⟨by omega, by omega⟩ | exact Or.inl ⟨by omega, by omega⟩ | exact ⟨by omega, by omega⟩ | exact ⟨by decide, by decide, by decide⟩ | (simp; done))
local macro_rules | `(tactic| walk_at "hp") => `(tactic| first | assumption | (refine' L2.SqT.of ?h1; (case h1 => walk_at "hp")) | (refine' L2.SqL.of ?h1; (case h1 => walk_at "hp")) | (refine' Sg.Same.tup ?h1 ?h2; (case h1 => assumption); (case h2 => walk_at "hp")) | (refine' L2.Same.seq ?h1 ?h2; (case h1 => assumption); (case h2 => walk_at "hp")) | (refine' (show L2.Same _ _ from ?h1) _ _ ?h2; (case h1 => assumption); (case h2 => walk_at "hp")) | (refine' Sg.at_keep ?he ?h1 ?h2 ?h3; (case he => assumption); (case h1 => walk_at "hp"); (case h2 => walk_at "hp"); (case h3 => (intro z; cases z))))
local macro_rules | `(tactic| walk_at "al") => `(tactic| (intro p hn; generalize hH : upd _ _ _ = H'; have hs := Sg.Same.of_new hH hn; have ho := Sg.at_new hH; clear hH))
local macro_rules | `(tactic| walk_at "sm1") => `(tactic| first | (refine' L2.Same.trans ?ha ?hb; (case hb => assumption)) | (refine' Sg.Same.old ?ha ?hb ?hc; (case hc => assumption); (case hb => walk_at "nn")))
local macro_rules | `(tactic| walk_at "sm") => `(tactic| first | exact L2.Same.refl _ | assumption | (walk_at "sm1"; walk_at "sm"))
local macro_rules | `(tactic| walk_at "nn") => `(tactic| first | assumption | ((refine' L2.Same.free ?ha ?hb; (case hb => assumption)); walk_at "sm"))
local macro_rules | `(tactic| walk_at "dp") => `(tactic| first | assumption | exact L2.Dp.int _ | exact L2.Dp.non | exact L2.Dp.bl _ | exact L2.Dp.str _ | (refine' L2.Dp.tup ?ha ?hb; (case ha => walk_at "hp"); (case hb => walk_at "dpa")) | (refine' L2.Dp.lst ?ha ?hb; (case ha => walk_at "hp"); (case hb => walk_at "dpa")))
local macro_rules | `(tactic| walk_at "dpa") => `(tactic| first | assumption | exact L2.DpAll.nil | exact Sg.DpAll.ints _ | (refine' L2.DpAll.cons ?ha ?hb; (case ha => walk_at "dp"); (case hb => walk_at "dpa")))
local macro_rules | `(tactic| walk_at "fl") => `(tactic| first | assumption | exact Sg.Fl.int _ _ | exact Sg.Fl.non _ | exact Sg.Fl.bool _ _ | (refine' Sg.Fl.tup ?ha; (case ha => walk_at "fla")) | (refine' Sg.Fl.lst ?ha; (case ha => walk_at "fla")))
local macro_rules | `(tactic| walk_at "fla") => `(tactic| first | assumption | exact Sg.Fl.nil | exact Sg.Fl.mapi | (refine' Sg.Fl.cons ?ha ?hb; (case ha => walk_at "fl"); (case hb => walk_at "fla")))
local macro_rules | `(tactic| walk_at "tyx") => `(tactic| first | exact L2.TyX.base (L2.TyOf.int _) | exact L2.TyX.base (L2.TyOf.bl _) | exact L2.TyX.base L2.TyOf.non | exact L2.TyX.base (L2.TyOf.str _) | (refine' L2.TyX.base (L2.TyOf.tup ?ha); (case ha => walk_at "hp")) | (refine' L2.TyX.base (L2.TyOf.lst ?ha); (case ha => walk_at "hp")) | (refine' L2.TyX.base (L2.TyOf.frz ?ha); (case ha => walk_at "hp")))
local macro_rules | `(tactic| walk_at "up") => `(tactic| (generalize hH : upd _ _ _ = H'; have ho := Sg.at_new hH))
local macro_rules | `(tactic| walk_at "lk") => `(tactic| first | with_reducible assumption | with_reducible exact Sg.lk_eq | (refine' Sg.lk_ne ?ha ?hb; (case ha => decide +kernel); (case hb => walk_at "lk")) | (refine' Sg.lk_no ?ha ?hb; (case ha => decide +kernel); (case hb => walk_at "lk")) | rfl)
local macro_rules | `(tactic| walk_at "few") => `(tactic| first | assumption | omega | decide | (refine' Nat.lt_of_le_of_lt (Sg.putF_len ?ha) ?hb; (case ha => walk_at "fewi"); (case hb => decide)))
local macro_rules | `(tactic| walk_at "fewi") => `(tactic| first | assumption | (refine' Sg.putF_len ?ha; (case ha => walk_at "fewi")) | exact Nat.le_refl _)
local macro_rules | `(tactic| walk_at "rd1") => `(tactic| with_reducible (first | refine' Sg.r_seq ?_ | refine' Sg.r_asg ?_ | refine' Sg.r_gname ?_ | (refine' Sg.r_var (by with_unfolding_all rfl) ?_) | refine' Sg.r_c ?_ | refine' Sg.r_op ?_ | refine' Sg.r_un ?_ | refine' Sg.r_cb ?_ | refine' Sg.r_cons ?_ | refine' Sg.r_nil ?_ | (refine' Sg.r_mod ?hc ?_; (case hc => (with_unfolding_all walk_at "side")); (intro z hz z0 z1)) | (refine' Sg.r_rI ?hc ?_; (case hc => (with_unfolding_all walk_at "side"))) | refine' Sg.r_rI0 ?_ | refine' Sg.r_rU ?_ | refine' Sg.r_int ?_ | refine' Sg.r_eqi ?_ | refine' Sg.r_nei ?_ | (refine' Sg.r_ixl ?h ?e ?_; (case h => (with_unfolding_all walk_at "hp")); (case e => (with_unfolding_all rfl))) | (refine' Sg.r_ixt ?h ?e ?_; (case h => (with_unfolding_all walk_at "hp")); (case e => (with_unfolding_all rfl))) | (refine' Sg.r_lenl ?h ?_; (case h => (with_unfolding_all walk_at "hp"))) | (refine' Sg.r_lent ?h ?_; (case h => (with_unfolding_all walk_at "hp"))) | refine' Sg.r_test ?_ | refine' Sg.r_exb ?_ | refine' Sg.r_tB ?_ | refine' Sg.r_exbP ?_ | refine' Sg.r_ifs ?_ | refine' Sg.r_and ?_ | refine' Sg.r_or ?_ | refine' Sg.r_not ?_ | refine' Sg.r_andV ?_ | refine' Sg.r_orV ?_ | refine' Sg.r_notV ?_ | refine' Sg.r_tif ?_ | refine' Sg.r_isN ?_ | refine' Sg.r_notN ?_ | refine' Sg.r_ret ?_ | refine' Sg.r_drop ?_ | refine' Sg.r_next ?_ | refine' Sg.r_call ?_ | refine' Sg.r_make ?_ | refine' Sg.r_meth ?_ | refine' Sg.r_fld ?_ | refine' Sg.r_sfld ?_ | refine' Sg.r_chain ?_ | (refine' Sg.r_fldL ?h ?hc ?hn ?hl ?_; (case h => (with_unfolding_all walk_at "hp")); (case hc => assumption); (case hn => assumption); (case hl => (with_unfolding_all walk_at "lk"))) | (refine' Sg.r_sfldL ?h ?hc ?hn ?hl ?_; (case h => (with_unfolding_all walk_at "hp")); (case hc => assumption); (case hn => assumption); (case hl => (with_unfolding_all walk_at "few")); (with_unfolding_all walk_at "up")) | (refine' Sg.r_gunl ?h ?hl ?_; (case h => (with_unfolding_all walk_at "hp")); (case hl => (with_unfolding_all walk_at "side"))) | (refine' Sg.r_gtup ?h ?hl ?_; (case h => (with_unfolding_all walk_at "hp")); (case hl => (with_unfolding_all walk_at "side"))) | (refine' Sg.r_methL ?h ?hl ?_; (case h => (with_unfolding_all walk_at "hp")); (case hl => (with_unfolding_all walk_at "lk"))) | refine' Sg.r_tup ?_ | refine' Sg.r_lst ?_ | (refine' Sg.r_ktup ?hl ?_; (case hl => (with_unfolding_all first | exact Nat.le_of_ble_eq_true rfl | decide)); (with_unfolding_all walk_at "al")) | (refine' Sg.r_klst ?hl ?_; (case hl => (with_unfolding_all first | exact Nat.le_of_ble_eq_true rfl | decide)); (with_unfolding_all walk_at "al")) | (refine' Sg.r_listl ?h ?_; (case h => (with_unfolding_all walk_at "hp")); (with_unfolding_all walk_at "al")) | (refine' Sg.r_listt ?h ?_; (case h => (with_unfolding_all walk_at "hp")); (with_unfolding_all walk_at "al")) | (refine' Sg.r_tupl ?h ?_; (case h => (with_unfolding_all walk_at "hp")); (with_unfolding_all walk_at "al")) | (refine' Sg.r_tupt ?h ?_; (case h => (with_unfolding_all walk_at "hp"))) | (refine' Sg.r_in (.inr ?h) ?fx ?fs ?_; (case h => (with_unfolding_all walk_at "hp")); (case fx => (with_unfolding_all rfl)); (case fs => (with_unfolding_all rfl))) | (refine' Sg.r_in (.inl ?h) ?fx ?fs ?_; (case h => (with_unfolding_all walk_at "hp")); (case fx => (with_unfolding_all rfl)); (case fs => (with_unfolding_all rfl))) | (refine' Sg.r_sorted ?h ?h64 ?_; (case h => (with_unfolding_all walk_at "hp")); (case h64 => (with_unfolding_all walk_at "side")); (intro ns' p perm rising; revert p; (with_unfolding_all walk_at "al"))) | (refine' Sg.r_app ?h ?hl ?_; (case h => (with_unfolding_all walk_at "hp")); (case hl => (with_unfolding_all walk_at "size")); (with_unfolding_all walk_at "up")) | refine' Sg.r_lc ?_ | refine' Sg.r_for ?_ | refine' Sg.r_irng1 ?_ | refine' Sg.r_irng2 ?_ | refine' Sg.r_ilist ?_ | refine' Sg.r_itup ?_ | (refine' Sg.r_kR1 ?h1 ?h2 ?_; (case h1 => (with_unfolding_all walk_at "side")); (case h2 => (with_unfolding_all walk_at "side"))) | (refine' Sg.r_kR2 ?h1 ?_; (case h1 => (with_unfolding_all refine ⟨?_, ?_, ?_, ?_⟩ <;> walk_at "side"))) | (refine' Sg.r_kIl ?h ?_; (case h => (with_unfolding_all walk_at "hp"))) | (refine' Sg.r_kIt ?h ?_; (case h => (with_unfolding_all walk_at "hp"))) | refine' Sg.r_bm ?_ | refine' Sg.r_bm0 ?_ | (refine' Sg.r_tyl ?h ?_; (case h => (with_unfolding_all walk_at "hp"))) | refine' Sg.r_nonR ?_ | refine' Sg.r_nonN ?_ | refine' Sg.r_isR ?_ | refine' Sg.r_isNN ?_ | refine' Sg.r_nonI ?_ | refine' Sg.r_isI ?_ | refine' L2.iteT ?_ | refine' L2.iteF ?_ | refine' Sg.r_gcons ?_ | refine' Sg.r_gnil ?_ | refine' Sg.r_gsub ?_ | refine' Sg.r_isb ?_ | refine' Sg.r_notb ?_ | (refine' Sg.r_aug (by with_unfolding_all rfl) ?_) | refine' Sg.r_ipI ?_ | (refine' Sg.r_isi (b := true) (L2.ClsV.ty _) ?ht ?hk ?_; (case ht => (with_unfolding_all walk_at "tyx")); (case hk => (with_unfolding_all exact L2.kit_ty (by decide +kernel)))) | (refine' Sg.r_isi (b := false) (L2.ClsV.ty _) ?ht ?hk ?_; (case ht => (with_unfolding_all walk_at "tyx")); (case hk => (with_unfolding_all exact L2.kit_ty (by decide +kernel)))) | refine' Sg.r_gmap ?_ | refine' Sg.r_gmapn ?_ | (refine' Sg.r_iteb ?hb ?_; (case hb => (with_unfolding_all rfl))) | (refine' Sg.r_iteB ?hb ?_; (case hb => (with_unfolding_all rfl)))))
local macro_rules | `(tactic| walk_at "rd") => `(tactic| repeat walk_at "rd1")
local macro_rules | `(tactic| walk_at "rdo") => `(tactic| repeat (first | walk_at "rd1" | (with_reducible refine' Sg.r_iteD ?hc ?_; (case hc => first | assumption | omega)) | (with_reducible refine' Sg.r_iteDn ?hc ?_; (case hc => first | assumption | omega)) | (with_reducible refine' Sg.r_iteND ?hc ?_; (case hc => first | assumption | omega)) | (with_reducible refine' Sg.r_iteNDn ?hc ?_; (case hc => first | assumption | omega))))
local macro_rules | `(tactic| walk_at "rd1") => `(tactic| with_reducible (first | refine' Sg.r_istr ?_ | refine' Sg.r_kIs ?_ | refine' Sg.r_eqb ?_ | refine' Sg.r_isS ?_ | refine' Sg.r_nonS ?_ | refine' Sg.r_eqs ?_ | refine' Sg.r_nes ?_ | refine' Sg.r_sl ?_ | refine' Sg.r_noP ?_ | refine' Sg.r_part ?_ | refine' Sg.r_kPart ?_ | (refine' Sg.r_slL ?h ?_; (case h => (with_unfolding_all walk_at "hp")); (with_unfolding_all walk_at "al"))))
local macro_rules | `(tactic| walk_at "szle") => `(tactic| (rw [Sg.sz]; (try simp only [List.length_map, List.length_append, List.length_cons, List.length_nil, List.length_replicate]); omega))
local macro_rules | `(tactic| walk_at "rd1") => `(tactic| with_reducible (first | (refine' Sg.r_cat ?h ?h' ?hz ?_; (case h => (with_unfolding_all walk_at "hp")); (case h' => (with_unfolding_all walk_at "hp")); (case hz => (with_unfolding_all walk_at "szle")); (with_unfolding_all walk_at "al")) | (refine' Sg.r_rep1 ?h ?h1 ?h2 ?_; (case h => (with_unfolding_all walk_at "hp")); (case h1 => omega); (case h2 => omega); (with_unfolding_all walk_at "al"))))
local macro_rules | `(tactic| walk_at "rd1") => `(tactic| with_reducible (first | (refine' Sg.r_lenS ?hl ?_; (case hl => omega)) | (refine' Sg.r_min2 ?_; (intro m hm1 hm2 hm3)) | (refine' Sg.r_max2 ?_; (intro m hm1 hm2 hm3)) | (refine' Sg.r_addT ?hl ?_; (case hl => omega))))
local macro_rules | `(tactic| walk_at "ca1") => `(tactic| fail)
local macro_rules | `(tactic| walk_at "pr") => `(tactic| first | assumption | omega | walk_at "hp" | exact L2.upd_same | rfl | trivial | decide)
local macro_rules | `(tactic| walk_at "it1") => `(tactic| with_reducible (first | (refine' Sg.r_iteD ?hc ?_; (case hc => first | assumption | omega)) | (refine' Sg.r_iteDn ?hc ?_; (case hc => first | assumption | omega)) | (refine' Sg.r_iteND ?hc ?_; (case hc => first | assumption | omega)) | (refine' Sg.r_iteNDn ?hc ?_; (case hc => first | assumption | omega))))
local macro_rules | `(tactic| walk_at "go1") => `(tactic| first | walk_at "rd1" | walk_at "rx1" | walk_at "ca1" | walk_at "it1")
local macro_rules | `(tactic| walk_at "go") => `(tactic| repeat walk_at "go1")
local macro_rules | `(tactic| walk_at "gs") => `(tactic| repeat' (first | walk_at "go1" | with_reducible refine' Sg.r_ite (fun _ => ?_) (fun _ => ?_) | with_reducible refine' Sg.r_iteN (fun _ => ?_) (fun _ => ?_)))
-- imports: HandS.NoneIn HandS.Defaults HandS.TupMul HandS.Zip HandS.SetFor HandS.SetKeys HandS.Walk HandS.Codes HandS.AnyAll HandS.WideBits HandS.Iter HandS.Rev HandS.ForExc HandS.CallSlots PyProof.WalksMore KE.GoesEnum
-- auto
section
variable {P : Program} {w : World} {K : PySem.W.Frag} {mg : Str → Option Value} {base : Heap}
theorem made_same {H H1 : Hp} {x dx : Addr} {o : HO} (nx : H x = none) (nd : H dx = none) (k : ∀ q, q ≠ x → H1 q = upd (upd H dx (.own x)) x o q) : Same H H1 := fun b u e => by
  rw [k b (ne_of_none e nx), upd_ne (ne_of_none e nx), upd_ne (ne_of_none e nd)]
  exact e

def sp_parts_of : Sp := fun vs H Q _ => ∃ n s : Int, vs = [.int n, .int s] ∧ 0 < s ∧ s < 1073741824 ∧ Q (.int ((n + s - 1) / s)) H
theorem ok_parts_of (T : Txt K mg) : FnOk P w K mg base CX0 1 T.a_parts_of T.fd_parts_of ["number", "size"] sp_parts_of := by
  refine T.F_parts_of.ok sc_parts_of (fun vs H Q E h => ?_) (fun cdv A outer s H vs Q E hr h => ?_)
  · obtain ⟨n, s, rfl, _⟩ := h
    rfl
  · refine ⟨_, (pss_one (ps_ret (pe_op op_fdiv (pe_op op_sub (pe_op op_add (pv 0) (pv 1)) pe_int) (pv 1)))), ?_⟩
    try dsimp only [cxOf, Cx.nox, Cx.wish]
    obtain ⟨n, s, rfl, h1, h2, q⟩ := h
    walk_at "rd"
    exact q
/-! ### layouts -/
/-- the numbers of a layout -/
structure Lay where
  seg : Int
  blk : Int
  size : Int
  pay : Int
  lim : Int
  last : Int
  fan : Int
  reg : Int
  dev : Int
def layOf (s b z : Int) : Lay := ⟨s, b, z, b - 1, (s - 2) * (b - 1), (s - 2) * (b - 1) + (b - 1), z / 2, (2 * (4 * ((s - 2) * (b - 1) + (b - 1)) + 6 + s) + z - 1) / z, 2 * ((2 * (4 * ((s - 2) * (b - 1) + (b - 1)) + 6 + s) + z - 1) / z) + s * b⟩
/-- three sizes that a layout can have -/
structure Fits (s b z : Int) : Prop where
  s0 : 4 ≤ s
  s1 : s ≤ 16
  b0 : 16 ≤ b
  b1 : b ≤ 32
  zz : z = 64 ∨ z = 128 ∨ z = 256
  fit : 16 + 2 * (b - 1) + ((s - 2) * (b - 1) + (b - 1) + 8 - 1) / 8 ≤ z
/-- the fields of a layout -/
structure LayFs (L : Lay) (fs : List (Str × V)) : Prop where
  seg : fs.lookup ("segments" : Str) = some (V.int L.seg)
  blk : fs.lookup ("segment_blocks" : Str) = some (V.int L.blk)
  size : fs.lookup ("block_size" : Str) = some (V.int L.size)
  pay : fs.lookup ("payload" : Str) = some (V.int L.pay)
  lim : fs.lookup ("limit" : Str) = some (V.int L.lim)
  last : fs.lookup ("last_id" : Str) = some (V.int L.last)
  fan : fs.lookup ("fan" : Str) = some (V.int L.fan)
  reg : fs.lookup ("region_blocks" : Str) = some (V.int L.reg)
  dev : fs.lookup ("device_blocks" : Str) = some (V.int L.dev)
def LayAt (C : Addr) (L : Lay) (H : Hp) (p : Addr) : Prop := ∃ dx fs, H p = some (.ins C dx fs) ∧ LayFs L fs
theorem LayAt.mono {C : Addr} {L : Lay} {H H' : Hp} {p : Addr} (s : Same H H') (h : LayAt C L H p) : LayAt C L H' p := by
  obtain ⟨dx, fs, h1, h2⟩ := h
  exact ⟨dx, fs, s _ _ h1, h2⟩
def sp_layout (C : Addr) : Sp := fun vs H Q _ => ∃ (p dx : Addr) (s b z : Int), vs = [.ref p, .int s, .int b, .int z] ∧ H p = some (.ins C dx []) ∧ Fits s b z ∧
  ∀ H' fs, (∀ q, q ≠ p → H' q = H q) → H' p = some (.ins C dx fs) → LayFs (layOf s b z) fs → Q .non H'
theorem in_sizes {z : Int} (h : z = 64 ∨ z = 128 ∨ z = 256) : (!inV (V.int z) [V.int 64, V.int 128, V.int 256]) = false := by
  rcases h with rfl | rfl | rfl <;> decide
theorem keep1 {H H1 H' : Hp} {p : Addr} {o : HO} (h : ∀ q, q ≠ p → H1 q = H q) (e : upd H1 p o = H') : ∀ q, q ≠ p → H' q = H q := fun q hq => by
  rw [← e, upd_ne hq]
  exact h q hq
theorem ok_Layout___init (T : Txt K mg) : FnOk P w K mg base CX0 2 T.a_Layout___init T.fd_Layout___init ["self", "segments", "segment_blocks", "block_size"] (sp_layout T.A_Layout) := by
  refine T.F_Layout___init.ok sc_Layout___init (fun vs H Q E h => ?_) (fun cdv A outer s H vs Q E hr h => ?_)
  · obtain ⟨p, dx, s, b, z, rfl, _⟩ := h
    rfl
  · refine ⟨_, (pss_cons (ps_if (pt_not (pt_chain op_le op_le pe_int (pv 1) pe_int))
       (pss_one ps_never)
       pss_nil)
       (pss_cons (ps_if (pt_not (pt_chain op_le op_le pe_int (pv 2) pe_int))
       (pss_one ps_never)
       pss_nil)
       (pss_cons (ps_if (pt_cmpR op_notIn_seq (pv 3) (pe_glob rfl T.c_BLOCK_SIZES T.r_BLOCK_SIZES) (by with_unfolding_all rfl))
       (pss_one ps_never)
       pss_nil)
       (pss_cons (ps_fld (pv 0) (pv 1) rfl)
       (pss_cons (ps_fld (pv 0) (pv 2) rfl)
       (pss_cons (ps_fld (pv 0) (pv 3) rfl)
       (pss_cons (ps_fld (pv 0) (pe_op op_sub (pv 2) pe_int) rfl)
       (pss_cons (ps_fld (pv 0) (pe_op op_mul (pe_op op_sub (pv 1) pe_int) (pe_fld (pv 0) rfl)) rfl)
       (pss_cons (ps_fld (pv 0) (pe_op op_add (pe_fld (pv 0) rfl) (pe_fld (pv 0) rfl)) rfl)
       (pss_cons (ps_fld (pv 0) (pe_op op_fdiv (pv 3) pe_int) rfl)
       (pss_cons (ps_fld (pv 0) (pe_call (ok_parts_of T) (hr.mono (by decide)) rfl T.m_parts_of T.F_parts_of.kp T.b_parts_of .nil pass0 (pa_cons (pe_op op_mul pe_int (pe_op op_add (pe_op op_add (pe_op op_mul pe_int (pe_fld (pv 0) rfl)) pe_int) (pv 1))) (pa_cons (pv 3) pa_nil))) rfl)
       (pss_cons (ps_fld (pv 0) (pe_op op_add (pe_op op_mul pe_int (pe_fld (pv 0) rfl)) (pe_op op_mul (pv 1) (pv 2))) rfl)
       (pss_one (ps_if (pt_cmpR op_gt (pe_op op_add (pe_op op_add (pe_glob rfl T.c_SUMMARY_HEAD T.r_SUMMARY_HEAD) (pe_op op_mul pe_int (pe_fld (pv 0) rfl))) (pe_call (ok_parts_of T) (hr.mono (by decide)) rfl T.m_parts_of T.F_parts_of.kp T.b_parts_of .nil pass0 (pa_cons (pe_fld (pv 0) rfl) (pa_cons pe_int pa_nil)))) (pv 3) (nomark _))
       (pss_one ps_never)
       pss_nil)))))))))))))), ?_⟩
    try dsimp only [cxOf, Cx.nox, Cx.wish]
    obtain ⟨p, dx, s, b, z, rfl, hp, hF, q⟩ := h
    obtain ⟨s0, s1, b0, b1, hz, fit⟩ := hF
    have cl := T.cl_Layout
    have na1 := T.na_Layout_segments
    have na2 := T.na_Layout_segment_blocks
    have na3 := T.na_Layout_block_size
    have na4 := T.na_Layout_payload
    have na5 := T.na_Layout_limit
    have na6 := T.na_Layout_last_id
    have na7 := T.na_Layout_fan
    have na8 := T.na_Layout_region_blocks
    have na9 := T.na_Layout_device_blocks
    walk_at "rdo"
    refine r_in (.inr (T.v_BLOCK_SIZES _)) rfl rfl ?_
    walk_at "rd"
    refine r_iteB (in_sizes hz) ?_
    walk_at "rdo"
    refine ⟨_, _, rfl, by omega, by omega, ?_⟩
    walk_at "rdo"
    refine ⟨_, _, rfl, by omega, by omega, ?_⟩
    walk_at "rdo"
    refine q _ _ ?kk (by walk_at "hp") ⟨by walk_at "lk", by walk_at "lk", by walk_at "lk", by walk_at "lk", by walk_at "lk", by walk_at "lk", by walk_at "lk", by walk_at "lk", by walk_at "lk"⟩
    case kk =>
      repeat (refine keep1 ?_ (by assumption))
      exact fun _ _ => rfl

/-- what is known of a layout's numbers -/
structure LayC (L : Lay) : Prop where
  s0 : 4 ≤ L.seg
  s1 : L.seg ≤ 16
  b0 : 16 ≤ L.blk
  b1 : L.blk ≤ 32
  z0 : 64 ≤ L.size
  z1 : L.size ≤ 256
  pay : L.pay = L.blk - 1
  lim : L.lim = (L.seg - 2) * L.pay
  lst : L.last = L.lim + L.pay
  l0 : 45 ≤ L.last
  l1 : L.last ≤ 465
  fz : 2 * L.fan = L.size
  f0 : 32 ≤ L.fan
  f1 : L.fan ≤ 128
  r0 : 2 ≤ L.reg
  r1 : L.reg ≤ 60
  dv : L.dev = 2 * L.reg + L.seg * L.blk
  d0 : 64 ≤ L.dev
  d1 : L.dev ≤ 1000
  rf0 : 4 * L.last + 6 + L.seg ≤ L.reg * L.fan
  rf1 : L.reg * L.fan ≤ 3000
theorem Fits.all {s b z : Int} (h : Fits s b z) : LayC (layOf s b z) := by
  obtain ⟨s0, s1, b0, b1, hz, _⟩ := h
  have e : (s - 2) * (b - 1) + (b - 1) = (s - 1) * (b - 1) := by
    have e : s - 1 = (s - 2) + 1 := by omega
    rw [e, Int.add_mul, Int.one_mul]
  have h1 : 3 * (b - 1) ≤ (s - 1) * (b - 1) := Int.mul_le_mul_of_nonneg_right (by omega) (by omega)
  have h2 : (s - 1) * (b - 1) ≤ 15 * (b - 1) := Int.mul_le_mul_of_nonneg_right (by omega) (by omega)
  have h3 : 4 * b ≤ s * b := Int.mul_le_mul_of_nonneg_right (by omega) (by omega)
  have h4 : s * b ≤ 16 * b := Int.mul_le_mul_of_nonneg_right (by omega) (by omega)
  have hl : (layOf s b z).last = (s - 1) * (b - 1) := e
  have hr : (layOf s b z).reg = (2 * (4 * ((s - 2) * (b - 1) + (b - 1)) + 6 + s) + z - 1) / z := rfl
  have hf : (layOf s b z).fan = z / 2 := rfl
  have hd : (layOf s b z).dev = 2 * (layOf s b z).reg + s * b := rfl
  have hs : (layOf s b z).seg = s := rfl
  rw [e] at hr
  generalize hL : layOf s b z = L at hl hr hf hd hs
  have pp : L.pay = L.blk - 1 ∧ L.lim = (L.seg - 2) * L.pay ∧ L.last = L.lim + L.pay ∧ L.blk = b ∧ L.size = z ∧ L.dev = 2 * L.reg + L.seg * L.blk := by
    subst hL
    exact ⟨rfl, rfl, rfl, rfl, rfl, rfl⟩
  obtain ⟨p1, p2, p3, p4, p5, p6⟩ := pp
  generalize (s - 1) * (b - 1) = n at h1 h2 hl hr
  generalize hsb : s * b = k at h3 h4 hd
  have key : 2 * L.fan = z ∧ 32 ≤ L.fan ∧ L.fan ≤ 128 ∧ 2 ≤ L.reg ∧ L.reg ≤ 60 ∧ 4 * L.last + 6 + L.seg ≤ L.reg * L.fan ∧ L.reg * L.fan ≤ 3000 := by
    rcases hz with rfl | rfl | rfl
    · rw [hf, show (64 : Int) / 2 = 32 from by decide]; omega
    · rw [hf, show (128 : Int) / 2 = 64 from by decide]; omega
    · rw [hf, show (256 : Int) / 2 = 128 from by decide]; omega
  obtain ⟨k1, k2, k3, k4, k5, k6, k7⟩ := key
  refine ⟨by omega, by omega, by omega, by omega, by omega, by omega, p1, p2, p3, by omega, by omega, by omega, k2, k3, k4, k5, p6, by omega, by omega, k6, k7⟩
local macro_rules | `(tactic| walk_at "pr") => `(tactic| with_reducible (refine' Sg.LayAt.mono ?h1 ?h2; (case h1 => assumption); (case h2 => walk_at "pr")))

/-! ### enumerate of a list -/
def kIe (K : PySem.W.Frag) (R : It → Hp → Prop) : List V → Hp → Prop := fun vs H1 => ∃ a xs, vs = [.ref a] ∧ SqL K H1 a xs ∧ R (Ite K a) H1
theorem r_ienum {K : PySem.W.Frag} {ta : TA} {σ : L2.St} {H : Hp} {R : It → Hp → Prop} (h : ta σ H (kIe K R)) : iEnum K ta σ H R := h
theorem r_kIe {K : PySem.W.Frag} {a : Addr} {xs : List V} {H : Hp} {R : It → Hp → Prop} (h1 : SqL K H a xs) (h : R (Ite K a) H) : kIe K R [.ref a] H := ⟨a, xs, rfl, h1, h⟩
theorem r_forE {K : PySem.W.Frag} {a : Addr} {xs : List V} {σ : L2.St} {H : Hp} {D : Ends} {g : TG} {tb : TS} (Pv : Nat → L2.St → Hp → Prop) (h0 : Pv 0 σ H) (hl : ∀ i σ H, i ≤ xs.length → Pv i σ H → SqL K H a xs)
    (hs : ∀ (i : Nat) (x : V) (σ : L2.St) (H H' : Hp) (T : Addr), xs[i]? = some x → Pv i σ H → H T = none → upd H T (.tup [.int (i : Nat), x]) = H' → g (.ref T) σ H' fun σ2 H2 => tb { D with nx := Pv (i + 1), ct := Pv (i + 1), bk := D.nx } σ2 H2)
    (hd : ∀ σ H, Pv xs.length σ H → D.nx σ H) : kFor g tb D σ (Ite K a) H :=
  for_it walk_enum Pv h0 hl (fun i x σ H H' hlt p y => by
    obtain ⟨T, z, w, e1, e2, e3, e4, e5⟩ := y
    cases e4
    rw [e1]
    exact hs i w σ H H' T e5 p e2 e3.symm) hd
def SqI (K : PySem.W.Frag) (H : Hp) (l : Addr) (ns : List Int) : Prop := SqL K H l (ns.map V.int) ∨ SqT K H l (ns.map V.int)
theorem SqI.mono {K : PySem.W.Frag} {H H' : Hp} {l : Addr} {ns : List Int} (s : Same H H') (h : SqI K H l ns) : SqI K H' l ns := h.imp (fun h => s.seq h) (fun h => Same.tup s h)
theorem inV_ints (k : Int) : ∀ ns : List Int, inV (.int k) (ns.map V.int) = decide (k ∈ ns)
  | [] => rfl
  | n :: ns => by
    have ih := inV_ints k ns
    unfold inV at ih ⊢
    rw [List.map_cons, List.any_cons, ih]
    by_cases e : k = n
    · subst e
      simp [eqV]
    · have e' : ¬ n = k := fun z => e z.symm
      simp [eqV, e, e']
theorem flat_ints : ∀ ns : List Int, (ns.map V.int).all flatV = true
  | [] => rfl
  | n :: ns => by rw [List.map_cons, List.all_cons, flat_ints ns]; rfl

theorem r_neI {K : PySem.W.Frag} {H : Hp} {a b : Addr} {ns : List Int} {Q : V → Hp → Prop} (ha : SqL K H a (ns.map V.int)) (hb : SqL K H b (ns.map V.int)) (q : Q (.bl false) H) : rNeD K (.ref a) (.ref b) H Q := by
  refine r_ned (Dp.ints ha) (Dp.ints hb) (Fl.intlS ns) (Fl.intlS ns) ?_
  rw [(Fl.intl ns).self]
  exact q
theorem r_eqI {K : PySem.W.Frag} {H : Hp} {a b : Addr} {ns : List Int} {Q : V → Hp → Prop} (ha : SqL K H a (ns.map V.int)) (hb : SqL K H b (ns.map V.int)) (q : Q (.bl true) H) : rEqD K (.ref a) (.ref b) H Q := by
  refine r_eqd (Dp.ints ha) (Dp.ints hb) (Fl.intlS ns) (Fl.intlS ns) ?_
  rw [(Fl.intl ns).self]
  exact q

/-! ### slices of lists of ints -/
theorem sIx_nn {n d : Nat} {v : Int} (h : 0 ≤ v) : HT.sIx n d (some v) = min v.toNat n := by
  show (if v < 0 then (v + (n : Int)).toNat else min v.toNat n) = _
  rw [if_neg (by omega)]
theorem cut_from {xs : List V} {lo : Int} (h : 0 ≤ lo) : cutV xs (some lo) none = xs.drop lo.toNat := by
  unfold cutV
  rw [sIx_nn h, HT.sIx_none]
  by_cases c : lo.toNat ≤ xs.length
  · rw [Nat.min_eq_left c]
    exact List.take_of_length_le (by rw [List.length_drop]; omega)
  · rw [Nat.min_eq_right (by omega), List.drop_length, List.drop_of_length_le (by omega), List.take_nil]
theorem cut_to {xs : List V} {hi : Int} (h : 0 ≤ hi) : cutV xs none (some hi) = xs.take hi.toNat := by
  unfold cutV
  rw [sIx_nn h, HT.sIx_none, List.drop_zero, Nat.sub_zero]
  by_cases c : hi.toNat ≤ xs.length
  · rw [Nat.min_eq_left c]
  · rw [Nat.min_eq_right (by omega), List.take_length, List.take_of_length_le (by omega)]
theorem cut_both {xs : List V} {lo hi : Int} (h : 0 ≤ lo) (h' : 0 ≤ hi) : cutV xs (some lo) (some hi) = (xs.drop lo.toNat).take (hi.toNat - lo.toNat) := by
  unfold cutV
  rw [sIx_nn h, sIx_nn h']
  by_cases c : lo.toNat ≤ xs.length
  · rw [Nat.min_eq_left c]
    by_cases c2 : hi.toNat ≤ xs.length
    · rw [Nat.min_eq_left c2]
    · rw [Nat.min_eq_right (by omega), List.take_of_length_le (by rw [List.length_drop]; omega), List.take_of_length_le (by rw [List.length_drop]; omega)]
  · rw [Nat.min_eq_right (by omega : xs.length ≤ lo.toNat), List.drop_length, List.drop_of_length_le (by omega), List.take_nil, List.take_nil]

/-! ### numbers in octets: the mathematics -/
def octN : Int → Nat → List Int
  | _, 0 => []
  | n, k + 1 => n % 256 :: octN (n / 256) k
def val : List Int → Int
  | [] => 0
  | x :: r => val r * 256 + x
theorem octN_len : ∀ (k : Nat) (n : Int), (octN n k).length = k
  | 0, _ => rfl
  | k + 1, n => by rw [octN, List.length_cons, octN_len k]
theorem octN_at : ∀ (k i : Nat) (n : Int), i < k → (octN n k)[i]? = some (n / 2 ^ (8 * i) % 2 ^ 8)
  | 0, i, n, h => by omega
  | k + 1, 0, n, h => by
    rw [octN, List.getElem?_cons_zero, Nat.mul_zero, Int.pow_zero, Int.ediv_one]
    rfl
  | k + 1, i + 1, n, h => by
    rw [octN, List.getElem?_cons_succ, octN_at k i (n / 256) (by omega)]
    have e : n / 256 / 2 ^ (8 * i) = n / 2 ^ (8 * (i + 1)) := by
      rw [Int.ediv_ediv_of_nonneg (by decide), Nat.mul_add, Int.pow_add, Int.mul_comm]
      rfl
    rw [e]
theorem octN_byte : ∀ (k : Nat) (n x : Int), x ∈ octN n k → 0 ≤ x ∧ x < 256
  | 0, n, x, h => by cases h
  | k + 1, n, x, h => by
    rw [octN] at h
    rcases List.mem_cons.mp h with rfl | h
    · omega
    · exact octN_byte k _ x h
theorem val_octN : ∀ (k : Nat) (n : Int), val (octN n k) = n % 256 ^ k
  | 0, n => by rw [octN, val, Int.pow_zero, Int.emod_one]
  | k + 1, n => by
    rw [octN, val, val_octN k]
    have h1 : n / 256 % 256 ^ k = n / 256 - 256 ^ k * (n / 256 / 256 ^ k) := Int.emod_def ..
    have h2 : n % 256 ^ (k + 1) = n - 256 ^ (k + 1) * (n / 256 ^ (k + 1)) := Int.emod_def ..
    have h3 : n / 256 / 256 ^ k = n / 256 ^ (k + 1) := by
      rw [Int.ediv_ediv_of_nonneg (by decide), Int.pow_succ, Int.mul_comm]
    have h4 : (256 : Int) ^ (k + 1) = 256 ^ k * 256 := Int.pow_succ ..
    rw [h1, h2, h3, h4, Int.sub_mul, Int.mul_right_comm]
    generalize (256 : Int) ^ k * 256 * (n / (256 ^ k * 256)) = u
    omega
theorem octN_val : ∀ (l : List Int), (∀ x ∈ l, 0 ≤ x ∧ x < 256) → octN (val l) l.length = l
  | [], _ => rfl
  | x :: r, h => by
    obtain ⟨a, b⟩ := h x List.mem_cons_self
    rw [val, List.length_cons, octN]
    have e1 : (val r * 256 + x) % 256 = x := by omega
    have e2 : (val r * 256 + x) / 256 = val r := by omega
    rw [e1, e2, octN_val r fun y hy => h y (List.mem_cons_of_mem _ hy)]
theorem val_nn : ∀ (l : List Int), (∀ x ∈ l, 0 ≤ x ∧ x < 256) → 0 ≤ val l
  | [], _ => Int.le_refl _
  | x :: r, h => by
    have h1 := val_nn r fun y hy => h y (List.mem_cons_of_mem _ hy)
    obtain ⟨a, b⟩ := h x List.mem_cons_self
    rw [val]
    omega
theorem ext_at {l l' : List Int} {n : Nat} (hl : l.length = n) (hl' : l'.length = n) (h : ∀ i x, i < n → l[i]? = some x → l'[i]? = some x) : l = l' := by
  refine List.ext_getElem? fun i => ?_
  by_cases c : i < n
  · have e := List.getElem?_eq_getElem (l := l) (i := i) (by omega)
    rw [e, h i _ c e]
  · rw [List.getElem?_eq_none (by omega), List.getElem?_eq_none (by omega)]

def filI (ns : List Int) (c : Nat) : List Int := (ns ++ List.replicate c 0).take c
theorem filI_len (ns : List Int) (c : Nat) : (filI ns c).length = c := by
  unfold filI
  rw [List.length_take, List.length_append, List.length_replicate]
  omega
theorem filI_at {ns : List Int} {c i : Nat} (h : i < c) : (filI ns c).getD i 0 = ns.getD i 0 := by
  unfold filI
  rw [List.getD_eq_getElem?_getD, List.getD_eq_getElem?_getD, List.getElem?_take_of_lt h]
  by_cases hi : i < ns.length
  · rw [List.getElem?_append_left hi]
  · rw [List.getElem?_append_right (by omega), List.getElem?_eq_none (l := ns) (by omega), List.getElem?_replicate]
    split <;> rfl
theorem ext_getD {l l' : List Int} {n : Nat} (h : l.length = n) (h' : l'.length = n) (e : ∀ i, i < n → l.getD i 0 = l'.getD i 0) : l = l' := by
  refine List.ext_getElem (by omega) fun i h1 h2 => ?_
  have := e i (by omega)
  rw [List.getD_eq_getElem?_getD, List.getD_eq_getElem?_getD, List.getElem?_eq_getElem h1, List.getElem?_eq_getElem h2] at this
  exact this

/-! ### [e for x in ..], x by its place, e anything -/
theorem r_lcFn {J : It} {n slot : Nat} {f : Nat → V} {vs : List Nat} {te : TE} {σ : L2.St} {H : Hp} {Q : V → Hp → Prop} (w : Walk J n (fun _ => True) (YFn f)) (P : Nat → List V → Hp → Prop) (hn : n ≤ 100000) (hv : vs = [slot])
    (h0 : P 0 [] H)
    (hs : ∀ (i : Nat) (acc : List V) (H0 H' : Hp), i < n → L2.Same H H0 → P i acc H0 → L2.Same H0 H' → ∀ R : V → Hp → Prop,
      (∀ (v : V) (H'' : Hp), L2.Same H' H'' → (∀ D, H0 D = none → H' D = some (.lst acc) → P (i + 1) (acc ++ [v]) (hid D H'')) → R v H'') → te ((wipe σ vs).set slot (some (f i))) H' R)
    (q : ∀ (H' : Hp) (l : Addr) (acc : List V), L2.Same H H' → H l = none → H' l = some (.lst acc) → acc.length = n → P n acc (hid l H') → Q (.ref l) H') :
    kLc (gName slot) tYes te vs σ Q J H := by
  intro L hL
  have w1 : ∀ (τ : L2.St) (x : V), wipe (τ.set slot (some x)) [slot] = wipe τ [slot] := fun τ x => by simp [wipe, List.set_set]
  have w2 : wipe (wipe σ vs) vs = wipe σ vs := by subst hv; simp [wipe, List.set_set]
  refine lc_it w (fun i H' => ∃ acc : List V, acc.length = i ∧ H' L = some (.lst acc) ∧ L2.Same H H' ∧ P i acc (hid L H')) ⟨[], rfl, upd_same, fun b o e => by rw [upd_ne (ne_of_none e hL)]; exact e, by rw [hid_upd, hid_none hL]; exact h0⟩ (fun _ _ _ _ => trivial) ?_ ?_
  · rintro i x H' H2 hi ⟨acc, el, eL, s, hp⟩ ⟨rfl, rfl⟩
    refine ⟨?_, ?_⟩
    · subst hv
      rw [w1]
      exact w2
    · show te ((wipe σ vs).set slot (some (f i))) H2 _
      refine hs i acc (hid L H2) H2 hi (same_hid s hL) hp hid_same _ fun v H3 s3 hP => ⟨acc, s3 _ _ eL, by rw [el, sz]; omega, acc ++ [v], by rw [List.length_append, el]; rfl, upd_same, fun b o e => ?_, ?_⟩
      · rw [upd_ne (ne_of_none e hL)]
        exact s3 _ _ (s _ _ e)
      · rw [hid_upd]
        exact hP L hid_at eL
  · rintro H' ⟨acc, el, eL, s, hp⟩
    exact q H' L acc s hL eL el hp
def kR3 (R : It → Hp → Prop) : List V → Hp → Prop := fun vs H1 => ∃ (i j c : Int) (n : Nat), vs = [.int i, .int j, .int c] ∧ RgC i j c n ∧ R (Itc i c n) H1
theorem r_irng3 {ta : TA} {σ : L2.St} {H : Hp} {R : It → Hp → Prop} (h : ta σ H (kR3 R)) : iRng3 ta σ H R := h
theorem r_kR3 {i j c : Int} {n : Nat} {H : Hp} {R : It → Hp → Prop} (hr : RgC i j c n) (h : R (Itc i c n) H) : kR3 R [.int i, .int j, .int c] H := ⟨i, j, c, n, rfl, hr, h⟩
/-- in a comprehension: the frame is named from outside -/
theorem sl_listK {X : Cx} {K : PySem.W.Frag} (h : X.K = K) : SlR X (rSlL K) := by subst h; exact sl_list

/-! ### while, by a word with a measure -/
theorem r_while {c : TT} {tb : TS} {D : Ends} {σ : L2.St} {H : Hp} (Pv : Nat → L2.St → Hp → Prop) (m : Nat) (h0 : Pv m σ H)
    (hs : ∀ m σ H, Pv m σ H → c σ H fun b H1 => if b = true then ∃ N : L2.St → Hp → Prop, (∀ σ' H', N σ' H' → ∃ m', m' < m ∧ Pv m' σ' H') ∧ tb { D with nx := N, ct := N, bk := D.nx } σ H1 else D.nx σ H1) : tWhile c tb D σ H :=
  ⟨Pv, ⟨m, h0⟩, hs⟩

section
open PySem.Spec PyProof.Rows
/-! ### any(xs) of a list of ints -/
theorem truth_intsV {prog : Program} {w : World} {A : Around} {ns : List Int} {its : List Value} (r : Vals (ns.map V.int) its) :
    TruthOf prog w A (fun i v => its.toArray[i]? = some v) (fun i => ns.getD i 0 != 0) := fun i v s Q E hv hq => by
  have hv' : its[i]? = some v := by simpa using hv
  have hi := (List.getElem?_eq_some_iff.mp hv').1
  have hl : (ns.map V.int).length = its.length := r.length
  rw [List.length_map] at hl
  have hx : (ns.map V.int)[i]? = some (V.int (ns.getD i 0)) := by
    rw [List.getElem?_map, List.getElem?_eq_getElem (by omega), List.getD_eq_getElem?_getD, List.getElem?_eq_getElem (by omega)]
    rfl
  obtain ⟨u, hu, ru⟩ := r.get hx
  rw [hv'] at hu
  cases hu
  obtain ⟨t, rfl⟩ := ru
  exact PySem.P.truthy_int hq
theorem any_rangeI : ∀ ns : List Int, (List.range ns.length).any (fun i => ns.getD i 0 != 0) = ns.any (· != 0)
  | [] => rfl
  | b :: bs => by
    rw [List.length_cons, List.range_succ_eq_map, List.any_cons, List.any_map, List.any_cons, ← any_rangeI bs]
    all_goals rfl
def rAnyI (K : PySem.W.Frag) : List V → Hp → VK → Prop := fun vs H Q => ∃ (a : Addr) (ns : List Int), vs = [V.ref a] ∧ SqL K H a (ns.map V.int) ∧ Q (.bl (ns.any (· != 0))) H
theorem cr_anyI {X : Cx} (hc : X.calm = true) : CallR X (.builtin "any") (rAnyI X.K) := by
  intro pins s σ H vs us Q I r h
  obtain ⟨a, ns, rfl, hs, q⟩ := h
  obtain ⟨its, rv, hl, _⟩ := I.list hs
  rw [Vals.ref1 r]
  refine PySem.call_any_walk (iter_any hl.isList fun s₂ e2 st hne => ?_)
  subst e2
  refine ⟨_, _, _, _, _, _, _, rfl, Walks.list (A := X.A.in1) (I.ok.hd hc) _ a hne its.toArray, st, truth_intsV rv, fun h' tk hk => ?_⟩
  refine ⟨.bl _, H, I.kept fun b o eo => hk b o (fun hmem => ?_) (Heap.get?_push_of_some _ eo), ?_, q⟩
  · rcases List.mem_cons.mp hmem with e1 | hmem
    · exact absurd (e1 ▸ Heap.lt_size eo) (Nat.lt_irrefl _)
    · cases hmem
  · show Value.bool _ = Value.bool _
    rw [← any_rangeI, List.size_toArray, ← rv.length, List.length_map]
theorem r_anyI {K : PySem.W.Frag} {H : Hp} {a : Addr} {ns : List Int} {Q : V → Hp → Prop} (h : SqL K H a (ns.map V.int)) (q : Q (.bl (ns.any (· != 0))) H) : rAnyI K [.ref a] H Q := ⟨a, ns, rfl, h, q⟩

/-! ### xs[i] += v -/
theorem get_list {X : Cx} : PGet X (rIxL X.K) := by
  intro pins s σ H o i ov iv Q I ro ri h
  obtain ⟨p, xs, k, z, rfl, rfl, hq, he, q⟩ := h
  cases ro
  obtain ⟨t, rfl⟩ := ri
  obtain ⟨its, r, pl, hz⟩ := I.list hq
  obtain ⟨j, h1, h2, h3, h4, h5⟩ := atI_get he
  obtain ⟨u, ew, rw'⟩ := r.get h2
  have hl := r.length
  have hn := line63
  have fin : EP X pins σ Q u s := ⟨z, H, I, rw', q⟩
  by_cases h0 : 0 ≤ k
  · have hj : k.toNat = j := by
      rw [seqIndex_of h0 h5] at h1
      exact Option.some.inj h1
    exact wpAny_getItem_list pl.isList h0 (by omega) (by rw [hj]; simpa using ew) fin
  · have hj : (k + (its.toArray.size : Int)).toNat = j := by
      rw [seqIndex_neg (by omega) h4] at h1
      rw [List.size_toArray, ← hl]
      exact Option.some.inj h1
    exact wpAny_getItem_list_neg pl.isList (by omega) (by rw [List.size_toArray] <;> omega) (by omega) (by rw [hj]; simpa using ew) fin
theorem r_augS {to ti te : TE} {tget : V → V → Hp → VK → Prop} {tip : TIp} {tset : TSet} {D : Ends} {σ : L2.St} {H : Hp}
    (h : to σ H fun o H1 => ti σ H1 fun i H2 => tget o i H2 fun x H3 => te σ H3 fun y H4 => tip x y H4 fun z H5 => tset o i z H5 fun H6 => D.nx σ H6) : tAugS to ti te tget tip tset D σ H := h
local macro_rules | `(tactic| walk_at "ca1") => `(tactic| with_reducible (refine' Sg.r_augS ?_))

end
local macro_rules | `(tactic| walk_at "ca1") => `(tactic| with_reducible (refine' Sg.r_augS ?_))
/-! ### reversed of a list -/
def kIv (K : PySem.W.Frag) (R : It → Hp → Prop) : List V → Hp → Prop := fun vs H1 => ∃ (a : Addr) (xs : List V), vs = [.ref a] ∧ SqL K H1 a xs ∧ R (Itv K a xs.length) H1
theorem r_irev {K : PySem.W.Frag} {ta : TA} {σ : L2.St} {H : Hp} {R : It → Hp → Prop} (h : ta σ H (kIv K R)) : iRev K ta σ H R := h
theorem r_kIv {K : PySem.W.Frag} {a : Addr} {xs : List V} {H : Hp} {R : It → Hp → Prop} (h1 : SqL K H a xs) (h : R (Itv K a xs.length) H) : kIv K R [.ref a] H := ⟨a, xs, rfl, h1, h⟩
theorem r_forV {K : PySem.W.Frag} {a : Addr} {xs : List V} {g : TG} {tb : TS} {D : Ends} {σ : L2.St} {H : Hp} (Pv : Nat → L2.St → Hp → Prop) (h0 : Pv 0 σ H) (hG : ∀ i σ H, i ≤ xs.length → Pv i σ H → SqL K H a xs)
    (hs : ∀ i x σ H, i < xs.length → xs[xs.length - 1 - i]? = some x → Pv i σ H → g x σ H fun σ2 H2 => tb { D with nx := Pv (i + 1), ct := Pv (i + 1), bk := D.nx } σ2 H2) (hd : ∀ σ H, Pv xs.length σ H → D.nx σ H) : kFor g tb D σ (Itv K a xs.length) H :=
  for_it walk_rev Pv h0 hG (fun i x σ H H' hi p ⟨e, hx⟩ => by subst e; exact hs i x σ _ hi hx p) hd

/-- a def with defaults that lets nothing out (its loops) -/
theorem fund_okN {P : Program} {w : World} {K : PySem.W.Frag} {mg : Str → Option Value} {base : Heap} {x qual : Str} {params : Arguments} {body : List Stmt} {scope : Scope} {dvs : List V} {kws : List (Str × V)} {f : Addr} {fd : FuncData} {N ps : List Str} {k : Nat} {sp : Sp}
    (F : FunD K x qual params body scope dvs kws f fd) (S : FnScope N ps scope) (len : ∀ vs H Q E, sp vs H Q E → vs.length = ps.length)
    (hbody : ∀ (cdv : Value) (A : Around) (outer : List Env) (s : Shared) (H : Hp) (vs : List V) (Q : VK) (E : XK), Room k (A.deeper (PyProof.Rows.envOfC qual scope s.heap.objs.size f cdv)) → sp vs H Q E →
      ∃ t, PSs (cxOf CX0 P w K mg base N qual scope f cdv A outer s H E).nox body t ∧ t { nx := fun _ H' => Q .non H', rt := Q } (start N vs) H) : FnOk P w K mg base CX0 (k + 1) f fd ps sp :=
  F.ok (CX := CX0) S len fun cdv A outer s H vs Q E hr hsp => by
    obtain ⟨t, h, q⟩ := hbody cdv A outer s H vs Q E hr hsp
    exact ⟨t, h.nox, q⟩
/-! ### sets of ints: made of a list or a tuple, asked -/
theorem firstMet_mem (ns : List Int) (k : Int) : ∀ i, i ≤ ns.length → (PyProof.Rows.firstMet (fun i => ns.getD i 0) i).any (· == k) = decide (k ∈ ns.take i)
  | 0, _ => by simp [PyProof.Rows.firstMet_zero]
  | i + 1, h => by
    have hi : i < ns.length := by omega
    have e2 : ns.getD i 0 = ns[i] := by rw [List.getD_eq_getElem?_getD, List.getElem?_eq_getElem hi]; rfl
    have e3 : ns.take (i + 1) = ns.take i ++ [ns[i]] := by rw [List.take_add_one, List.getElem?_eq_getElem hi]; rfl
    rw [PyProof.Rows.firstMet_succ, PyProof.Rows.step_any, firstMet_mem ns k i (by omega), e2, e3]
    rw [Bool.eq_iff_iff]
    simp only [decide_eq_true_eq, Bool.or_eq_true, List.mem_append, List.mem_singleton]
def rSetOf (K : PySem.W.Frag) : List V → Hp → (V → Hp → Prop) → Prop := fun xs H Q => ∃ (l : Addr) (ns : List Int), xs = [.ref l] ∧ (SqL K H l (ns.map V.int) ∨ SqT K H l (ns.map V.int)) ∧ ns.length ≤ 4000 ∧ ∀ (p : Addr) (c : Nat), H p = none → Q (.ref p) (upd H p (.set (fun k => decide (k ∈ ns)) c))
theorem c_set {X : Cx} (hc : X.calm = true) : CallR X (.type "set") (rSetOf X.K) := by
  intro pins s σ H xs us Q I r h
  obtain ⟨l, ns, rfl, hq, hl, q⟩ := h
  obtain ⟨u, rfl, rx⟩ := vals1 r
  cases rx
  have hd := I.ok.hd hc
  rcases hq with hq | hq
  · obtain ⟨its, rv, pl, hz⟩ := I.list hq
    have hlen : its.toArray.size = ns.length := by rw [List.size_toArray, ← rv.length, List.length_map]
    refine PySem.call_set_list hd pl.isList (by simpa using RZ.intsAre_vals rv) (by rw [hlen]; unfold scanBound; omega) fun h' tk hS hk => ?_
    have hS' := PyProof.Rows.SetOf_congr (S' := fun k => decide (k ∈ ns)) hS (fun k => by rw [hlen, firstMet_mem ns k ns.length (Nat.le_refl _), List.take_length]) rfl
    exact ⟨.ref _, upd H s.heap.objs.size (.set (fun k => decide (k ∈ ns)) _), I.laid (t' := tk) (fun b o e => hk b o (Heap.lt_size e) e) (Nat.le_refl _) hS', rfl, q _ _ (I.hok.fresh (Nat.le_refl _))⟩
  · obtain ⟨its, rv, pt, hz⟩ := I.tuple hq
    refine call_set_tupI ns hd (show s.heap.IsTuple l its.toArray from pt) (by simpa using ints_of_vals rv) (by unfold scanBound; omega) fun h' tk c R1 hcn k => ?_
    exact ⟨.ref _, upd H s.heap.objs.size (.set (fun k => decide (k ∈ ns)) c), I.laid (t' := tk) k (Nat.le_refl _) R1.setOf, rfl, q _ _ (I.hok.fresh (Nat.le_refl _))⟩
def rInS : V → V → Hp → (V → Hp → Prop) → Prop := fun x y H Q => ∃ (k : Int) (a : Addr) (S : Int → Bool) (n : Nat), x = V.int k ∧ y = V.ref a ∧ H a = some (.set S n) ∧ Q (.bl (S k)) H
theorem or_inS {X : Cx} : OpR X (compareOp .In) rInS := by
  intro pins s σ H x y v u Q I rx ry h
  obtain ⟨k, a, S, n, rfl, rfl, ha, q⟩ := h
  obtain ⟨tk, rfl⟩ := rx
  cases ry
  exact wpAny_inSet_of (intKind_is _ _ _ _) rfl (I.hok a _ ha) ⟨.bl (S k), H, I.tok _, rfl, q⟩
theorem r_setOf {K : PySem.W.Frag} {l : Addr} {H : Hp} {Q : V → Hp → Prop} (ns : List Int) (h : SqL K H l (ns.map V.int) ∨ SqT K H l (ns.map V.int)) (hl : ns.length ≤ 4000) (q : ∀ (p : Addr) (c : Nat), H p = none → Q (.ref p) (upd H p (.set (fun k => decide (k ∈ ns)) c))) : rSetOf K [.ref l] H Q := ⟨l, ns, rfl, h, hl, q⟩
theorem r_inS {k : Int} {a : Addr} {S : Int → Bool} {n : Nat} {H : Hp} {Q : V → Hp → Prop} (h : H a = some (.set S n)) (q : Q (.bl (S k)) H) : rInS (.int k) (.ref a) H Q := ⟨k, a, S, n, rfl, rfl, h, q⟩

local macro_rules | `(tactic| walk_at "rx1") => `(tactic| with_reducible (first | refine' Sg.r_prop ?_ | (refine' Sg.r_kprop ?h ?_; (case h => (with_unfolding_all walk_at "hp"))) | refine' Sg.r_irev ?_ | (refine' Sg.r_kIv ?h ?_; (case h => (with_unfolding_all walk_at "hp"))) | refine' Sg.r_makeN ?_ | refine' Sg.r_callN ?_ | refine' Sg.r_makeSD ?_ | refine' Sg.r_callSD ?_ | refine' Sg.r_methSD ?_ | (refine' Sg.r_kmethSD ?h ?hl ?_; (case h => (with_unfolding_all walk_at "hp")); (case hl => (with_unfolding_all walk_at "lk"))) | refine' Sg.r_tryA ?_ | refine' Sg.r_din ?_ | refine' Sg.r_kdi ?_ | (refine' Sg.r_kdi2 ?h ?_; (case h => (with_unfolding_all walk_at "hp"))) | (refine' Sg.r_kdi2f ?h ?_; (case h => assumption)) | refine' Sg.r_dnotin ?_ | refine' Sg.r_kdn ?_ | (refine' Sg.r_kdn2 ?h ?_; (case h => (with_unfolding_all walk_at "hp"))) | refine' Sg.r_dget ?_ | refine' Sg.r_kdg ?_ | refine' Sg.r_dget1 ?_ | (refine' Sg.r_kdt ?h ?_; (case h => (with_unfolding_all walk_at "hp"))) | (refine' Sg.r_kdt2 ?h ?_; (case h => (with_unfolding_all walk_at "hp"))) | refine' Sg.r_dput ?_ | refine' Sg.r_kdp ?_ | refine' Sg.r_kdp2 ?_ | (refine' Sg.r_kdp3 ?h ?hl ?_; (case h => (with_unfolding_all walk_at "hp")); (case hl => (with_unfolding_all walk_at "side")); (with_unfolding_all walk_at "up")) | refine' Sg.r_ddel ?_ | refine' Sg.r_kdd ?_ | refine' Sg.r_dpop1 ?_ | (refine' Sg.r_kdo ?h ?_; (case h => (with_unfolding_all walk_at "hp"))) | refine' Sg.r_ikeys ?_ | (refine' Sg.r_kIk ?h ?_; (case h => assumption)) | (refine' Sg.r_dnew ?_; (with_unfolding_all walk_at "al")) | (refine' Sg.r_lenD ?h ?_; (case h => (with_unfolding_all walk_at "hp"))) | (refine' Sg.r_dictD ?h ?_; (case h => (with_unfolding_all walk_at "hp")); (with_unfolding_all walk_at "al"))))
local macro_rules | `(tactic| walk_at "rx") => `(tactic| repeat (first | walk_at "rd1" | walk_at "rx1"))
/-! ### number_octets, number_of -/
def sp_number_octets : Sp := fun vs H Q _ => ∃ n c : Int, vs = [.int n, .int c] ∧ 0 ≤ c ∧ c ≤ 1000 ∧ ∀ (H' : Hp) (l : Addr), Same H H' → H l = none → H' l = some (.lst ((octN n c.toNat).map V.int)) → Q (.ref l) H'
theorem ok_number_octets (T : Txt K mg) : FnOk P w K mg base CX0 1 T.a_number_octets T.fd_number_octets ["number", "count"] sp_number_octets := by
  refine T.F_number_octets.ok sc_number_octets (fun vs H Q E h => ?_) (fun cdv A outer s H vs Q E hr h => ?_)
  · obtain ⟨n, c, rfl, _⟩ := h
    rfl
  · refine ⟨_, (pss_one (ps_ret (pe_lc (own := [("place", 2)]) (g := gName 2) (tt := tYes) rfl sc_number_octets.nd (pi_range1 rfl T.n_range (pa_cons (pv 1) pa_nil)) (blkOk_by (own := [("place", 2)]) (N := n_number_octets) (sc := defScope s_number_octets) (by decide +kernel)) (fun _ _ _ _ _ => pg_name (i := 2) sc_number_octets.nd rfl (Or.inl rfl)) (fun _ _ _ _ _ => pts_nil) (fun _ _ _ _ _ => (pe_op op_andM (pe_op op_shr (pv 0) (pe_op op_mul pe_int (pv 2))) pe_int))))), ?_⟩
    try dsimp only [cxOf, Cx.nox, Cx.wish]
    obtain ⟨n, c, rfl, c0, c1, q⟩ := h
    walk_at "rd"
    refine r_lcI (fun i z => z = n / 2 ^ (8 * i) % 2 ^ 8) (by omega) rfl ?_ ?_
    · intro i H' hi s R hR
      walk_at "rd"
      refine ⟨_, 8, rfl, by decide, ?_⟩
      refine hR _ ?_
      rw [show (8 * ((0 : Int) + (i : Int))).toNat = 8 * i from by omega]
    · intro H' l zs s nl hl el hz
      refine q H' l s nl ?_
      rw [hl, ext_at el (octN_len c.toNat n) fun i x hi hx => by rw [octN_at _ _ _ hi, hz i x hx]]

theorem i_number_octets  {args_ : List V} {H : Hp} {Q : V → Hp → Prop} {E : XK} {n c : Int} (ev : args_ = [.int n, .int c]) (c0 : 0 ≤ c) (c1 : c ≤ 1000) (q : ∀ (H' : Hp) (l : Addr), Same H H' → H l = none → H' l = some (.lst ((octN n c.toNat).map V.int)) → Q (.ref l) H') : sp_number_octets  args_ H Q E := ⟨n, c, ev, c0, c1, q⟩
local macro_rules | `(tactic| walk_at "ca1") => `(tactic| with_reducible (refine' Sg.i_number_octets ?ev ?c0 ?c1 ?_; (case ev => (with_unfolding_all rfl)); (case c0 => (with_unfolding_all walk_at "pr")); (case c1 => (with_unfolding_all walk_at "pr")); intros))

/-! ### blocks in octets: the mathematics -/
def pairsO : List Int → List Int
  | [] => []
  | n :: r => octN n 2 ++ pairsO r
theorem pairsO_len : ∀ ns, (pairsO ns).length = 2 * ns.length
  | [] => rfl
  | n :: r => by
    rw [pairsO, List.length_append, octN_len, pairsO_len r, List.length_cons]
    omega
theorem pairsO_snoc : ∀ (ns : List Int) (n : Int), pairsO (ns ++ [n]) = pairsO ns ++ octN n 2
  | [], n => rfl
  | m :: r, n => by
    rw [List.cons_append, pairsO, pairsO, pairsO_snoc r, List.append_assoc]
theorem pairsO_at : ∀ (ns : List Int) (i : Nat) (n : Int), ns[i]? = some n → ((pairsO ns).drop (i * 2)).take 2 = octN n 2
  | [], i, n, h => by simp at h
  | m :: r, 0, n, h => by
    cases h
    rfl
  | m :: r, i + 1, n, h => by
    rw [pairsO, show (i + 1) * 2 = 2 + i * 2 by omega, ← List.drop_drop]
    exact pairsO_at r i n h
def piecesV (os : List Int) : List Int := (List.range ((os.length + 1) / 2)).map fun i => val ((os.drop (i * 2)).take 2)
theorem piecesV_len (os : List Int) : (piecesV os).length = (os.length + 1) / 2 := by
  unfold piecesV
  rw [List.length_map, List.length_range]
theorem piecesV_pairs {ns : List Int} (h : ∀ x ∈ ns, 0 ≤ x ∧ x < 65536) : piecesV (pairsO ns) = ns := by
  refine List.ext_getElem? fun i => ?_
  unfold piecesV
  rw [pairsO_len, show (2 * ns.length + 1) / 2 = ns.length by omega, List.getElem?_map]
  by_cases hi : i < ns.length
  · rw [List.getElem?_range hi, List.getElem?_eq_getElem hi]
    have e : ns[i]? = some ns[i] := List.getElem?_eq_getElem hi
    show some (val _) = _
    rw [pairsO_at _ _ _ e, val_octN]
    obtain ⟨a, b⟩ := h _ (List.getElem_mem hi)
    congr 1
    rw [show (256 : Int) ^ 2 = 65536 from rfl]
    omega
  · rw [List.getElem?_eq_none (by rw [List.length_range]; omega), List.getElem?_eq_none (by omega)]
    rfl
theorem val2_lt : ∀ (l : List Int), l.length ≤ 2 → (∀ x ∈ l, 0 ≤ x ∧ x < 256) → 0 ≤ val l ∧ val l < 65536
  | [], _, _ => by decide
  | [a], _, h => by
    have := h a (by simp)
    rw [val, val]
    omega
  | [a, b], _, h => by
    have := h a (by simp)
    have := h b (by simp)
    rw [val, val, val]
    omega
  | _ :: _ :: _ :: _, hl, _ => by simp at hl
theorem piecesV_lt {os : List Int} (h : ∀ x ∈ os, 0 ≤ x ∧ x < 256) : ∀ x ∈ piecesV os, 0 ≤ x ∧ x < 65536 := fun x hx => by
  obtain ⟨i, _, rfl⟩ := List.mem_map.mp hx
  exact val2_lt _ (by rw [List.length_take]; omega) fun y hy => h y (List.mem_of_mem_drop (List.mem_of_mem_take hy))
/-! bits -/
def addBit (row : List Int) (p : Nat) : List Int := row.set (p / 8) (row.getD (p / 8) 0 + 2 ^ (p % 8))
def bitsO (last : Nat) (us : List Nat) : List Int := us.foldl addBit (List.replicate ((last + 7) / 8) 0)
theorem addBit_len (row : List Int) (p : Nat) : (addBit row p).length = row.length := List.length_set
theorem foldBit_len : ∀ (us : List Nat) (row : List Int), (us.foldl addBit row).length = row.length
  | [], _ => rfl
  | u :: us, row => by rw [List.foldl_cons, foldBit_len us, addBit_len]
theorem bitsO_len (last : Nat) (us : List Nat) : (bitsO last us).length = (last + 7) / 8 := by
  unfold bitsO
  rw [foldBit_len, List.length_replicate]
def bitAt (row : List Int) (p : Nat) : Bool := decide (row.getD (p / 8) 0 / 2 ^ (p % 8) % 2 = 1)
def b1 (x : Bool) : Int := if x = true then 1 else 0
theorem b1_or (x : Bool) : b1 x = 0 ∨ b1 x = 1 := by cases x <;> simp [b1]
def bv (S : Nat → Bool) (j : Nat) : Int := b1 (S (8 * j)) + 2 * b1 (S (8 * j + 1)) + 4 * b1 (S (8 * j + 2)) + 8 * b1 (S (8 * j + 3)) + 16 * b1 (S (8 * j + 4)) + 32 * b1 (S (8 * j + 5)) + 64 * b1 (S (8 * j + 6)) + 128 * b1 (S (8 * j + 7))
theorem bv_bit (S : Nat → Bool) (j r : Nat) (h : r < 8) : bv S j / 2 ^ r % 2 = b1 (S (8 * j + r)) := by
  unfold bv
  have h0 := b1_or (S (8 * j))
  have h1 := b1_or (S (8 * j + 1))
  have h2 := b1_or (S (8 * j + 2))
  have h3 := b1_or (S (8 * j + 3))
  have h4 := b1_or (S (8 * j + 4))
  have h5 := b1_or (S (8 * j + 5))
  have h6 := b1_or (S (8 * j + 6))
  have h7 := b1_or (S (8 * j + 7))
  rcases (by omega : r = 0 ∨ r = 1 ∨ r = 2 ∨ r = 3 ∨ r = 4 ∨ r = 5 ∨ r = 6 ∨ r = 7) with rfl | rfl | rfl | rfl | rfl | rfl | rfl | rfl <;>
    (try simp only [Nat.add_zero]) <;> generalize b1 (S (8 * j)) = x0 at * <;> generalize b1 (S (8 * j + 1)) = x1 at * <;> generalize b1 (S (8 * j + 2)) = x2 at * <;> generalize b1 (S (8 * j + 3)) = x3 at * <;> generalize b1 (S (8 * j + 4)) = x4 at * <;> generalize b1 (S (8 * j + 5)) = x5 at * <;> generalize b1 (S (8 * j + 6)) = x6 at * <;> generalize b1 (S (8 * j + 7)) = x7 at * <;> omega
theorem bv_add (S : Nat → Bool) (j r : Nat) (h : r < 8) (hS : S (8 * j + r) = false) : bv (fun q => S q || decide (q = 8 * j + r)) j = bv S j + 2 ^ r := by
  have z : b1 (S (8 * j + r)) = 0 := by rw [hS]; rfl
  rcases (by omega : r = 0 ∨ r = 1 ∨ r = 2 ∨ r = 3 ∨ r = 4 ∨ r = 5 ∨ r = 6 ∨ r = 7) with rfl | rfl | rfl | rfl | rfl | rfl | rfl | rfl <;>
    (try simp only [Nat.add_zero] at z ⊢) <;> simp [bv, b1] at z ⊢ <;> simp [z] <;> omega
theorem bv_ne (S : Nat → Bool) (j p : Nat) (h : j ≠ p / 8) : bv (fun q => S q || decide (q = p)) j = bv S j := by
  have e : ∀ k, k < 8 → decide (8 * j + k = p) = false := fun k hk => decide_eq_false (by omega)
  have e0 := e 0 (by omega)
  rw [Nat.add_zero] at e0
  simp only [bv, e0, e 1 (by omega), e 2 (by omega), e 3 (by omega), e 4 (by omega), e 5 (by omega), e 6 (by omega), e 7 (by omega), Bool.or_false]
theorem addBit_bv {row : List Int} {S : Nat → Bool} {n p : Nat} (hl : row.length = n) (h : ∀ j, j < n → row.getD j 0 = bv S j) (hp : p / 8 < n) (hS : S p = false) : ∀ j, j < n → (addBit row p).getD j 0 = bv (fun q => S q || decide (q = p)) j := fun j hj => by
  unfold addBit
  by_cases c : j = p / 8
  · subst c
    have e := bv_add S (p / 8) (p % 8) (by omega) (by rw [Nat.div_add_mod]; exact hS)
    rw [Nat.div_add_mod] at e
    rw [e, List.getD_eq_getElem?_getD, List.getElem?_set_self (by omega), h _ hj]
    rfl
  · rw [bv_ne S j p c, List.getD_eq_getElem?_getD, List.getElem?_set_ne (fun z => c z.symm), ← List.getD_eq_getElem?_getD, h j hj]
theorem fold_bv : ∀ (us : List Nat) (row : List Int) (S : Nat → Bool) (n : Nat), row.length = n → (∀ j, j < n → row.getD j 0 = bv S j) → us.Pairwise (· < ·) → (∀ u ∈ us, u / 8 < n ∧ S u = false) → ∀ j, j < n → (us.foldl addBit row).getD j 0 = bv (fun q => S q || decide (q ∈ us)) j
  | [], row, S, n, hl, h, _, _, j, hj => by simpa using h j hj
  | u :: us, row, S, n, hl, h, hp, hu, j, hj => by
    obtain ⟨u1, u2⟩ := hu u List.mem_cons_self
    obtain ⟨p1, p2⟩ := List.pairwise_cons.mp hp
    rw [List.foldl_cons, fold_bv us (addBit row u) _ n (by rw [addBit_len]; exact hl) (addBit_bv hl h u1 u2) p2 (fun v hv => ⟨(hu v (List.mem_cons_of_mem _ hv)).1, by
      have := p1 v hv
      rw [(hu v (List.mem_cons_of_mem _ hv)).2, decide_eq_false (by omega)]; rfl⟩) j hj]
    congr 1
    funext q
    simp [Bool.or_assoc]
theorem bits_at {last : Nat} {us : List Nat} (hp : us.Pairwise (· < ·)) (hu : ∀ u ∈ us, u < last) {p : Nat} (h : p < last) : bitAt (bitsO last us) p = decide (p ∈ us) := by
  unfold bitAt bitsO
  rw [fold_bv us _ (fun _ => false) ((last + 7) / 8) (by rw [List.length_replicate]) (fun j hj => by
    rw [List.getD_eq_getElem?_getD, List.getElem?_replicate, if_pos hj]; rfl) hp (fun u hu' => ⟨by have := hu u hu'; omega, rfl⟩) (p / 8) (by omega), bv_bit _ _ _ (by omega), Nat.div_add_mod]
  by_cases c : p ∈ us <;> simp [b1, c]
theorem filt_mem : ∀ (n s : Nat) (us : List Nat), us.Pairwise (· < ·) → (∀ u ∈ us, s ≤ u ∧ u < s + n) → (List.range' s n).filter (fun p => decide (p ∈ us)) = us
  | 0, s, [], _, _ => rfl
  | 0, s, u :: us, _, h => by have := h u List.mem_cons_self; omega
  | n + 1, s, us, hp, h => by
    rw [List.range'_succ, List.filter_cons]
    by_cases c : s ∈ us
    · rw [if_pos (decide_eq_true c)]
      cases us with
      | nil => cases c
      | cons u us =>
        obtain ⟨p1, p2⟩ := List.pairwise_cons.mp hp
        have hu := h u List.mem_cons_self
        have e : u = s := by
          rcases List.mem_cons.mp c with z | z
          · exact z.symm
          · have := p1 s z
            omega
        subst e
        congr 1
        rw [← filt_mem n (u + 1) us p2 fun v hv => by have := p1 v hv; have := h v (List.mem_cons_of_mem _ hv); omega]
        refine List.filter_congr fun x hx => ?_
        have := List.mem_range'_1.mp hx
        rw [filt_mem n (u + 1) us p2 fun v hv => by have := p1 v hv; have := h v (List.mem_cons_of_mem _ hv); omega]
        simp only [List.mem_cons]
        congr 1
        exact propext ⟨fun z => z.resolve_left (by omega), .inr⟩
    · rw [if_neg (by simpa using c)]
      refine filt_mem n (s + 1) us hp fun u hu => ?_
      have := h u hu
      have : u ≠ s := fun z => c (z ▸ hu)
      omega
theorem filt_bits {last : Nat} {us : List Nat} (hp : us.Pairwise (· < ·)) (hu : ∀ u ∈ us, u < last) : (List.range last).filter (bitAt (bitsO last us)) = us := by
  have e : (List.range last).filter (bitAt (bitsO last us)) = (List.range last).filter fun p => decide (p ∈ us) := List.filter_congr fun x hx => bits_at hp hu (List.mem_range.mp hx)
  rw [e, List.range_eq_range']
  exact filt_mem last 0 us hp fun u h => ⟨Nat.zero_le _, by have := hu u h; omega⟩
theorem filt_in {last : Nat} {us : List Nat} (hp : us.Pairwise (· < ·)) (hu : ∀ u ∈ us, u < last) : (List.range last).filter (fun p => decide (p ∈ us)) = us := by
  rw [List.range_eq_range']
  exact filt_mem last 0 us hp fun u h => ⟨Nat.zero_le _, by have := hu u h; omega⟩
theorem bitAt_app {row ys : List Int} {p : Nat} (h : p / 8 < row.length) : bitAt (row ++ ys) p = bitAt row p := by
  unfold bitAt
  rw [List.getD_eq_getElem?_getD, List.getElem?_append_left h, ← List.getD_eq_getElem?_getD]
theorem filI_of {ns : List Int} {c : Nat} (h : ns.length ≤ c) : filI ns c = ns ++ List.replicate (c - ns.length) 0 := by
  unfold filI
  rw [List.take_append, List.take_of_length_le h, List.take_replicate]
  congr 2
  omega
/-! blocks -/
structure LayS (L : Lay) : Prop where
  c : LayC L
  zz : L.size = 64 ∨ L.size = 128 ∨ L.size = 256
  sf : 16 + 2 * L.pay + (L.last + 7) / 8 ≤ L.size
theorem Fits.lays {s b z : Int} (h : Fits s b z) : LayS (layOf s b z) := ⟨h.all, h.zz, by
  have e := h.fit
  show 16 + 2 * (b - 1) + ((s - 2) * (b - 1) + (b - 1) + 7) / 8 ≤ z
  rw [show ∀ x : Int, x + 7 = x + 8 - 1 from fun x => by omega]
  exact e⟩
inductive BB where
  | cm (ids : List Int) (us : List Nat) (a : Int)
  | ot (k : Int) (ns : List Int)
def kindB : BB → Int
  | .cm _ _ _ => 1
  | .ot k _ => k
structure BM where
  seq : Int
  rank : Int
  b : BB
def GoodB (L : Lay) : BB → Prop
  | .cm ids us a => (ids.length : Int) ≤ L.pay ∧ (∀ x ∈ ids, 0 ≤ x ∧ x < 65536) ∧ us.Pairwise (· < ·) ∧ (∀ u ∈ us, u < L.last.toNat) ∧ 0 ≤ a ∧ a ≤ 6
  | .ot k ns => 2 ≤ k ∧ k ≤ 5 ∧ (∀ x ∈ ns, 0 ≤ x ∧ x < 65536) ∧ (k = 2 → (ns.length : Int) ≤ L.pay) ∧ (k = 3 → (ns.length : Int) = L.size ∧ ∀ x ∈ ns, x < 256) ∧ (4 ≤ k → (ns.length : Int) = L.fan)
def GoodM (L : Lay) (m : BM) : Prop := 0 ≤ m.seq ∧ m.seq < 281474976710656 ∧ 0 ≤ m.rank ∧ m.rank < 65536 ∧ GoodB L m.b
def headO (k n : Int) : List Int := [83, 71, 70, 83, k] ++ octN n 2
def bodyO (L : Lay) : BB → List Int
  | .cm ids us a => filI (headO 1 ids.length ++ [a]) 16 ++ filI (pairsO ids) (2 * L.pay).toNat ++ bitsO L.last.toNat us
  | .ot k ns => if k = 2 then filI (headO 2 ns.length) 16 ++ pairsO ns else if k = 3 then ns else pairsO ns
def blkO (L : Lay) : Option BM → List Int
  | none => List.replicate (16 + L.size).toNat 0
  | some m => filI ([kindB m.b] ++ octN m.seq 6 ++ octN m.rank 2) 16 ++ filI (bodyO L m.b) L.size.toNat
def cntO (os : List Int) : Int := val ((os.drop 5).take 2)
def listedO (os : List Int) : List Int := piecesV ((os.drop 16).take (2 * (cntO os).toNat))
def readBB (L : Lay) (k : Int) (os : List Int) : Option BB :=
  if k = 1 then (if cntO os ≤ L.pay ∧ os.getD 7 0 ≤ 6 then some (.cm (listedO os) ((List.range L.last.toNat).filter (bitAt (os.drop (16 + 2 * L.pay).toNat))) (os.getD 7 0)) else none)
  else if k = 2 then (if cntO os ≤ L.pay then some (.ot 2 (listedO os)) else none)
  else if k = 3 then some (.ot 3 os)
  else if k = 4 ∨ k = 5 then some (.ot k (piecesV os)) else none
def rawB (os : List Int) (b : BB) : BM := ⟨val ((os.drop 1).take 6), val ((os.drop 7).take 2), b⟩
def readB (L : Lay) (os : List Int) : Option BM := match readBB L (os.getD 0 0) (os.drop 16) with
  | none => none
  | some b => if blkO L (some (rawB os b)) = os then some (rawB os b) else none
theorem bodyO_len {L : Lay} (hL : LayS L) : ∀ {b : BB}, GoodB L b → (bodyO L b).length ≤ 1000
  | .cm ids us a, ⟨h1, h2, h3, h4, h5, h6⟩ => by
    have := hL.c.z1
    have := hL.sf
    have := hL.c.l0
    have := hL.c.pay
    have := hL.c.b0
    show (filI _ 16 ++ filI _ _ ++ bitsO _ _).length ≤ _
    rw [List.length_append, List.length_append, filI_len, filI_len, bitsO_len]
    omega
  | .ot k ns, ⟨h1, h2, h3, h4, h5, h6⟩ => by
    have := hL.c.z1
    have := hL.c.f1
    have := hL.c.pay
    have := hL.c.b1
    have pl := pairsO_len ns
    show (if k = 2 then filI _ 16 ++ pairsO ns else if k = 3 then ns else pairsO ns).length ≤ _
    by_cases k2 : k = 2
    · have := h4 k2
      rw [if_pos k2, List.length_append, filI_len]
      omega
    by_cases k3 : k = 3
    · have := (h5 k3).1
      rw [if_neg k2, if_pos k3]
      omega
    · have := h6 (by omega)
      rw [if_neg k2, if_neg k3]
      omega
theorem bodyO_le {L : Lay} (hL : LayS L) : ∀ {b : BB}, GoodB L b → (bodyO L b).length ≤ L.size.toNat
  | .cm ids us a, ⟨h1, h2, h3, h4, h5, h6⟩ => by
    have := hL.c.z1
    have := hL.c.z0
    have := hL.sf
    have := hL.c.fz
    have := hL.c.l0
    have := hL.sf
    have := hL.c.l0
    have := hL.c.pay
    have := hL.c.b0
    show (filI _ 16 ++ filI _ _ ++ bitsO _ _).length ≤ _
    rw [List.length_append, List.length_append, filI_len, filI_len, bitsO_len]
    omega
  | .ot k ns, ⟨h1, h2, h3, h4, h5, h6⟩ => by
    have := hL.c.z1
    have := hL.c.z0
    have := hL.sf
    have := hL.c.fz
    have := hL.c.l0
    have := hL.c.f1
    have := hL.c.pay
    have := hL.c.b1
    have pl := pairsO_len ns
    show (if k = 2 then filI _ 16 ++ pairsO ns else if k = 3 then ns else pairsO ns).length ≤ _
    by_cases k2 : k = 2
    · have := h4 k2
      rw [if_pos k2, List.length_append, filI_len]
      omega
    by_cases k3 : k = 3
    · have := (h5 k3).1
      rw [if_neg k2, if_pos k3]
      omega
    · have := h6 (by omega)
      rw [if_neg k2, if_neg k3]
      omega
theorem readBB_body {L : Lay} (hL : LayS L) : ∀ {b : BB}, GoodB L b → readBB L (kindB b) (filI (bodyO L b) L.size.toNat) = some b
  | .cm ids us a, ⟨h1, h2, h3, h4, h5, h6⟩ => by
    obtain ⟨c, zz, sf⟩ := hL
    have p0 := c.pay
    have b0 := c.b0
    have l0 := c.l0
    have pl := pairsO_len ids
    have e1 : filI (pairsO ids) (2 * L.pay).toNat = pairsO ids ++ List.replicate ((2 * L.pay).toNat - 2 * ids.length) 0 := by
      rw [filI_of (by rw [pl]; omega), pl]
    have e2 : (filI (pairsO ids) (2 * L.pay).toNat).length = (2 * L.pay).toNat := filI_len _ _
    have bl := bitsO_len L.last.toNat us
    have hl : (bodyO L (.cm ids us a)).length ≤ L.size.toNat := by
      show (filI _ 16 ++ _ ++ _).length ≤ _
      rw [List.length_append, List.length_append, filI_len, filI_len, bl]
      omega
    rw [filI_of hl]
    generalize L.size.toNat - _ = z
    have ec : cntO (bodyO L (.cm ids us a) ++ List.replicate z 0) = ids.length := by
      show val (octN ids.length 2) = _
      rw [val_octN, show (256 : Int) ^ 2 = 65536 from rfl]
      have := c.b1
      omega
    have ed : ∀ k, (bodyO L (.cm ids us a) ++ List.replicate z 0).drop (16 + k) = (filI (pairsO ids) (2 * L.pay).toNat ++ bitsO L.last.toNat us ++ List.replicate z 0).drop k := fun k => by
      rw [← List.drop_drop]
      rfl
    have e7 : (bodyO L (.cm ids us a) ++ List.replicate z 0).getD 7 0 = a := rfl
    have el : listedO (bodyO L (.cm ids us a) ++ List.replicate z 0) = ids := by
      unfold listedO
      rw [ec, show (16 : Nat) = 16 + 0 from rfl, ed, List.drop_zero, e1, Int.toNat_natCast, List.append_assoc, List.append_assoc, List.take_append_of_le_length (by omega), List.take_of_length_le (by omega)]
      exact piecesV_pairs h2
    unfold readBB
    rw [if_pos (show kindB (BB.cm ids us a) = 1 from rfl), ec, e7, if_pos ⟨h1, h6⟩, el, show (16 + 2 * L.pay).toNat = 16 + (2 * L.pay).toNat by omega, ed, List.append_assoc]
    rw [show List.drop (2 * L.pay).toNat (filI (pairsO ids) (2 * L.pay).toNat ++ (bitsO L.last.toNat us ++ List.replicate z 0)) = bitsO L.last.toNat us ++ List.replicate z 0 from by
      rw [List.drop_append_of_le_length (by omega), List.drop_of_length_le (by omega), List.nil_append]]
    have ef : (List.range L.last.toNat).filter (bitAt (bitsO L.last.toNat us ++ List.replicate z 0)) = (List.range L.last.toNat).filter (bitAt (bitsO L.last.toNat us)) := List.filter_congr fun x hx => bitAt_app (by have := List.mem_range.mp hx; omega)
    rw [ef, filt_bits h3 h4]
  | .ot k ns, ⟨h1, h2, h3, h4, h5, h6⟩ => by
    obtain ⟨c, zz, sf⟩ := hL
    have p0 := c.pay
    have l0 := c.l0
    have f0 := c.fz
    have pl := pairsO_len ns
    show readBB L k (filI (bodyO L (.ot k ns)) L.size.toNat) = _
    by_cases k2 : k = 2
    · subst k2
      have n1 := h4 rfl
      have eb : bodyO L (.ot 2 ns) = filI (headO 2 ns.length) 16 ++ pairsO ns := by
        show (if (2 : Int) = 2 then filI (headO 2 ns.length) 16 ++ pairsO ns else if (2 : Int) = 3 then ns else pairsO ns) = _
        exact if_pos rfl
      rw [eb, filI_of (ns := filI (headO 2 ns.length) 16 ++ pairsO ns) (by rw [List.length_append, filI_len]; omega)]
      generalize L.size.toNat - _ = z
      have ec : cntO (filI (headO 2 ns.length) 16 ++ pairsO ns ++ List.replicate z 0) = ns.length := by
        show val (octN ns.length 2) = _
        rw [val_octN, show (256 : Int) ^ 2 = 65536 from rfl]
        have := c.b1
        omega
      have el : listedO (filI (headO 2 ns.length) 16 ++ pairsO ns ++ List.replicate z 0) = ns := by
        unfold listedO
        rw [ec, show List.drop 16 (filI (headO 2 ns.length) 16 ++ pairsO ns ++ List.replicate z 0) = pairsO ns ++ List.replicate z 0 from rfl, Int.toNat_natCast, List.take_append_of_le_length (by omega), List.take_of_length_le (by omega)]
        exact piecesV_pairs h3
      unfold readBB
      rw [if_neg (by decide), if_pos rfl, ec, if_pos n1, el]
    by_cases k3 : k = 3
    · subst k3
      have eb : bodyO L (.ot 3 ns) = ns := rfl
      obtain ⟨n1, n2⟩ := h5 rfl
      rw [eb, filI_of (by omega), show L.size.toNat - ns.length = 0 by omega, List.replicate_zero, List.append_nil]
      rfl
    · have eb : bodyO L (.ot k ns) = pairsO ns := by
        show (if k = 2 then _ else if k = 3 then _ else _) = _
        rw [if_neg k2, if_neg k3]
      have n1 := h6 (by omega)
      rw [eb, filI_of (by omega), pl, show L.size.toNat - 2 * ns.length = 0 by omega, List.replicate_zero, List.append_nil]
      unfold readBB
      rw [if_neg (by omega), if_neg k2, if_neg k3, if_pos (by omega), piecesV_pairs h3]
theorem readB_blk {L : Lay} {m : BM} (hL : LayS L) (hm : GoodM L m) : readB L (blkO L (some m)) = some m := by
  obtain ⟨h1, h2, h3, h4, h5⟩ := hm
  have e0 : (blkO L (some m)).getD 0 0 = kindB m.b := rfl
  have e16 : (blkO L (some m)).drop 16 = filI (bodyO L m.b) L.size.toNat := rfl
  have er : rawB (blkO L (some m)) m.b = m := by
    have a1 : ((blkO L (some m)).drop 1).take 6 = octN m.seq 6 := rfl
    have a2 : ((blkO L (some m)).drop 7).take 2 = octN m.rank 2 := rfl
    unfold rawB
    rw [a1, a2, val_octN, val_octN, Int.emod_eq_of_lt h1 (by rw [show (256 : Int) ^ 6 = 281474976710656 from rfl]; exact h2), Int.emod_eq_of_lt h3 (by rw [show (256 : Int) ^ 2 = 65536 from rfl]; exact h4)]
  unfold readB
  rw [e0, e16, readBB_body hL h5]
  show (if blkO L (some (rawB (blkO L (some m)) m.b)) = _ then _ else _) = _
  rw [er, if_pos rfl]
theorem blkO_len (L : Lay) (hL : LayS L) : ∀ o : Option BM, (blkO L o).length = (16 + L.size).toNat
  | none => List.length_replicate
  | some m => by
    have := hL.c.z0
    show (filI _ 16 ++ filI _ _).length = _
    rw [List.length_append, filI_len, filI_len]
    omega
theorem readBB_good {L : Lay} (hL : LayS L) {k : Int} {os : List Int} (hl : (os.length : Int) = L.size) (ho : ∀ x ∈ os, 0 ≤ x ∧ x < 256) {b : BB} (h : readBB L k os = some b) : GoodB L b ∧ kindB b = k := by
  obtain ⟨c, zz, sf⟩ := hL
  have p0 := c.pay
  have b0 := c.b0
  have f0 := c.fz
  have hd : ∀ n m, ∀ x ∈ (os.drop n).take m, 0 ≤ x ∧ x < 256 := fun n m x hx => ho x (List.mem_of_mem_drop (List.mem_of_mem_take hx))
  have c0 : 0 ≤ cntO os := (val2_lt _ (by rw [List.length_take]; omega) (hd 5 2)).1
  have ll : cntO os ≤ L.pay → ((listedO os).length : Int) ≤ L.pay := fun z => by
    unfold listedO
    rw [piecesV_len, List.length_take]
    omega
  have lm : ∀ x ∈ listedO os, 0 ≤ x ∧ x < 65536 := piecesV_lt (hd _ _)
  unfold readBB at h
  split at h
  · rename_i k1
    split at h
    · rename_i c1
      cases h
      refine ⟨⟨ll c1.1, lm, ?_, ?_, ?_, c1.2⟩, k1.symm⟩
      · exact List.Pairwise.filter _ List.pairwise_lt_range
      · intro u hu
        exact List.mem_range.mp (List.mem_filter.mp hu).1
      · rw [List.getD_eq_getElem?_getD]
        cases e : os[7]? with
        | none => exact Int.le_refl 0
        | some x => exact (ho x (List.mem_of_getElem? e)).1
    · cases h
  split at h
  · rename_i k2
    split at h
    · rename_i c1
      cases h
      exact ⟨⟨by decide, by decide, lm, fun _ => ll c1, fun z => absurd z (by decide), fun z => absurd z (by decide)⟩, k2.symm⟩
    · cases h
  split at h
  · rename_i k3
    cases h
    exact ⟨⟨by decide, by decide, fun x hx => by have := ho x hx; omega, fun z => absurd z (by decide), fun _ => ⟨hl, fun x hx => (ho x hx).2⟩, fun z => absurd z (by decide)⟩, k3.symm⟩
  split at h
  · rename_i k4
    cases h
    refine ⟨⟨by omega, by omega, piecesV_lt ho, fun z => by omega, fun z => by omega, fun _ => ?_⟩, rfl⟩
    rw [piecesV_len]
    omega
  · cases h

def sp_filled (K : PySem.W.Frag) : Sp := fun args_ H Q _ => ∃ (a : Addr) (ns : List Int) (c : Int), args_ = [.ref a, .int c] ∧ SqL K H a (ns.map V.int) ∧ ns.length ≤ 1000 ∧ 0 ≤ c ∧ c ≤ 1000 ∧ ∀ H' l, Same H H' → H l = none → H' l = some (.lst ((filI ns c.toNat).map V.int)) → Q (.ref l) H'
theorem i_filled {K : PySem.W.Frag} {args_ : List V} {H : Hp} {Q : V → Hp → Prop} {E : XK} {a : Addr} {ns : List Int} {c : Int} (ev : args_ = [.ref a, .int c]) (h : SqL K H a (ns.map V.int)) (hl : ns.length ≤ 1000) (c0 : 0 ≤ c) (c1 : c ≤ 1000) (q : ∀ H' l, Same H H' → H l = none → H' l = some (.lst ((filI ns c.toNat).map V.int)) → Q (.ref l) H') : sp_filled K args_ H Q E := ⟨a, ns, c, ev, h, hl, c0, c1, q⟩
local macro_rules | `(tactic| walk_at "ca1") => `(tactic| with_reducible (refine' Sg.i_filled ?ev ?h ?hl ?c0 ?c1 ?_; (case ev => (with_unfolding_all rfl)); (case h => (with_unfolding_all walk_at "pr")); (case hl => (with_unfolding_all walk_at "pr")); (case c0 => (with_unfolding_all walk_at "pr")); (case c1 => (with_unfolding_all walk_at "pr")); intros))

theorem ok_filled (T : Txt K mg) : FnOk P w K mg base CX0 1 T.a_filled T.fd_filled ["numbers", "count"] (sp_filled K) := by
  refine T.F_filled.ok sc_filled (fun vs H Q E h => ?_) (fun cdv A outer s H vs Q E hr h => ?_)
  · obtain ⟨a, ns, c, rfl, _⟩ := h
    rfl
  · refine ⟨_, (pss_one (ps_ret (pe_slice sl_list (pe_op op_cat (pe_callTy c_list (by rfl) T.n_list (by decide +kernel) (pa_cons (pv 0) pa_nil)) (pe_op op_rep (pe_lst (pa_cons pe_int pa_nil)) (pv 1))) po_none (po_some (pv 1))))), ?_⟩
    try dsimp only [cxOf, Cx.nox, Cx.wish]
    obtain ⟨a, ns, c, rfl, h, hl, c0, c1, q⟩ := h
    walk_at "go"
    rename_i l1 n1 H1 s1 g1 l2 n2 H2 s2 g2 l3 n3 H3 s3 g3 l4 n4 H4 s4 g4 l5 n5 H5 s5 g5
    refine q _ _ (by walk_at "sm") ((s1.trans (s2.trans (s3.trans s4))).free n5) ?_
    rw [g5, cut_to c0, filI, List.map_take, List.map_append, List.map_replicate]

/-! ### blocks written -/
def idsOf (us : List Nat) : List Int := us.map fun p : Nat => (p : Int) + 1
theorem idsOf_len (us : List Nat) : (idsOf us).length = us.length := List.length_map _
theorem r_ext {l b : Addr} {xs zs : List V} {H : Hp} {Q : V → Hp → Prop} (h : H l = some (.lst xs)) (hb : H b = some (.lst zs)) (hz : xs.length + zs.length ≤ 1000000) (q : Q .non (upd H l (.lst (xs ++ zs)))) : rExtend (.ref l) [.ref b] H Q :=
  ⟨l, b, xs, zs, rfl, rfl, h, hb, by rw [sz]; omega, q⟩
def BodyAt (K : PySem.W.Frag) (H : Hp) (v : Addr) : BB → Prop
  | .cm ids us a => ∃ i u, SqT K H v [.ref i, .ref u, .int a] ∧ SqT K H i (ids.map V.int) ∧ SqT K H u ((idsOf us).map V.int)
  | .ot _ ns => SqT K H v (ns.map V.int)
theorem BodyAt.mono {K : PySem.W.Frag} {H H' : Hp} {v : Addr} (s : Same H H') : ∀ {b : BB}, BodyAt K H v b → BodyAt K H' v b
  | .cm _ _ _, ⟨i, u, h1, h2, h3⟩ => ⟨i, u, Same.tup s h1, Same.tup s h2, Same.tup s h3⟩
  | .ot _ _, h => Same.tup s h
def BlkAt (K : PySem.W.Frag) (H : Hp) (v : V) : Option BM → Prop
  | none => v = .non
  | some m => ∃ t b, v = .ref t ∧ SqT K H t [.int (kindB m.b), .int m.seq, .int m.rank, .ref b] ∧ BodyAt K H b m.b
theorem BlkAt.mono {K : PySem.W.Frag} {H H' : Hp} {v : V} (s : Same H H') : ∀ {o : Option BM}, BlkAt K H v o → BlkAt K H' v o
  | none, h => h
  | some _, ⟨t, b, e, h1, h2⟩ => ⟨t, b, e, Same.tup s h1, h2.mono s⟩
theorem map_head (k n : Int) : ([83, 71, 70, 83] : List Int).map V.int ++ [V.int k] ++ (octN n 2).map V.int = (headO k n).map V.int := by
  unfold headO
  rw [List.map_append]
  rfl
theorem ids_mem {us : List Nat} {i : Nat} : decide (((0 : Int) + i + 1) ∈ idsOf us) = decide (i ∈ us) := by
  unfold idsOf
  congr 1
  refine propext ⟨fun h => ?_, fun h => List.mem_map.mpr ⟨i, h, by omega⟩⟩
  obtain ⟨j, hj, e⟩ := List.mem_map.mp h
  rw [show i = j by omega]
  exact hj
theorem i_parts_of  {args_ : List V} {H : Hp} {Q : V → Hp → Prop} {E : XK} {n s : Int} (ev : args_ = [.int n, .int s]) (s0 : 0 < s) (s1 : s < 1073741824) (q : Q (.int ((n + s - 1) / s)) H) : sp_parts_of  args_ H Q E := ⟨n, s, ev, s0, s1, q⟩
local macro_rules | `(tactic| walk_at "ca1") => `(tactic| with_reducible (refine' Sg.i_parts_of ?ev ?s0 ?s1 ?_; (case ev => (with_unfolding_all rfl)); (case s0 => (with_unfolding_all walk_at "pr")); (case s1 => (with_unfolding_all walk_at "pr"))))

def sp_summary_head  : Sp := fun args_ H Q _ => ∃ (k n : Int), args_ = [.int k, .int n] ∧ ∀ (H' : Hp) (l : Addr), Same H H' → H l = none → H' l = some (.lst ((headO k n).map V.int)) → Q (.ref l) H'
theorem i_summary_head  {args_ : List V} {H : Hp} {Q : V → Hp → Prop} {E : XK} {k n : Int} (ev : args_ = [.int k, .int n]) (q : ∀ (H' : Hp) (l : Addr), Same H H' → H l = none → H' l = some (.lst ((headO k n).map V.int)) → Q (.ref l) H') : sp_summary_head  args_ H Q E := ⟨k, n, ev, q⟩
local macro_rules | `(tactic| walk_at "ca1") => `(tactic| with_reducible (refine' Sg.i_summary_head ?ev ?_; (case ev => (with_unfolding_all rfl)); intros))

theorem ok_summary_head (T : Txt K mg) : FnOk P w K mg base CX0 2 T.a_summary_head T.fd_summary_head ["kind", "count"] sp_summary_head := by
  refine T.F_summary_head.ok sc_summary_head (fun vs H Q E h => ?_) (fun cdv A outer s H vs Q E hr h => ?_)
  · obtain ⟨k, n, rfl, _⟩ := h
    rfl
  · refine ⟨_, (pss_one (ps_ret (pe_op op_cat (pe_op op_cat (pe_callTy c_list (by rfl) T.n_list (by decide +kernel) (pa_cons (pe_glob rfl T.c_LETTERS T.r_LETTERS) pa_nil)) (pe_lst (pa_cons (pv 0) pa_nil))) (pe_call (ok_number_octets T) (hr.mono (by decide)) rfl T.m_number_octets T.F_number_octets.kp T.b_number_octets .nil pass0 (pa_cons (pv 1) (pa_cons pe_int pa_nil)))))), ?_⟩
    try dsimp only [cxOf, Cx.nox, Cx.wish]
    obtain ⟨k, n, rfl, q⟩ := h
    walk_at "go"
    refine r_listt (T.v_LETTERS _) ?_
    walk_at "al"
    walk_at "go"
    rename_i l1 n1 H1 s1 g1 l2 n2 H2 s2 g2 l3 n3 H3 s3 g3 H4 l4 s4 n4 g4
    refine r_cat (s4 _ _ g3) g4 (by rw [sz, List.length_map, octN_len]; have : (2 : Int).toNat = 2 := rfl; simp) ?_
    walk_at "al"
    walk_at "go"
    rename_i l5 n5 H5 s5 g5
    refine q _ _ (by walk_at "sm") ((s1.trans (s2.trans (s3.trans s4))).free n5) ?_
    rw [g5, ← map_head]
    rfl
def sp_pairs (K : PySem.W.Frag) : Sp := fun args_ H Q _ => ∃ (a : Addr) (ns : List Int), args_ = [.ref a] ∧ SqT K H a (ns.map V.int) ∧ ns.length ≤ 1000 ∧ ∀ (H' : Hp) (l : Addr), Same H H' → H l = none → H' l = some (.lst ((pairsO ns).map V.int)) → Q (.ref l) H'
theorem i_pairs {K : PySem.W.Frag} {args_ : List V} {H : Hp} {Q : V → Hp → Prop} {E : XK} {a : Addr} {ns : List Int} (ev : args_ = [.ref a]) (h : SqT K H a (ns.map V.int)) (hl : ns.length ≤ 1000) (q : ∀ (H' : Hp) (l : Addr), Same H H' → H l = none → H' l = some (.lst ((pairsO ns).map V.int)) → Q (.ref l) H') : sp_pairs K args_ H Q E := ⟨a, ns, ev, h, hl, q⟩
local macro_rules | `(tactic| walk_at "ca1") => `(tactic| with_reducible (refine' Sg.i_pairs ?ev ?h ?hl ?_; (case ev => (with_unfolding_all rfl)); (case h => (with_unfolding_all walk_at "pr")); (case hl => (with_unfolding_all walk_at "pr")); intros))

theorem ok_pairs (T : Txt K mg) : FnOk P w K mg base CX0 2 T.a_pairs T.fd_pairs ["numbers"] (sp_pairs K) := by
  refine T.F_pairs.ok sc_pairs (fun vs H Q E h => ?_) (fun cdv A outer s H vs Q E hr h => ?_)
  · obtain ⟨a, ns, rfl, _⟩ := h
    rfl
  · refine ⟨_, (pss_cons (ps_set (i := 1) sc_pairs.nd rfl (Or.inl rfl) (pe_lst pa_nil))
       (pss_cons (ps_for PassesOwn.never rfl (pi_tup (pv 0)) (pg_name (i := 2) sc_pairs.nd rfl (Or.inl rfl))
       (pss_one (ps_expr (pe_bm PySem.F.plainAttrs_list PySem.F.slot_list_extend PySem.F.type_list_extend mt_extend (pv 1) (pa_cons (pe_call (ok_number_octets T) (hr.mono (by decide)) rfl T.m_number_octets T.F_number_octets.kp T.b_number_octets .nil pass0 (pa_cons (pv 2) (pa_cons pe_int pa_nil))) pa_nil)))))
       (pss_one (ps_ret (pv 1))))), ?_⟩
    try dsimp only [cxOf, Cx.nox, Cx.wish]
    obtain ⟨a, ns, rfl, h, hl, q⟩ := h
    walk_at "go"
    rename_i o no H1 s1 g1
    refine r_forT (xs := ns.map V.int) (fun i σ' H' => ∃ (v2 : Option V), σ' = [some (.ref a), some (.ref o), v2] ∧ Same H H' ∧ H' o = some (.lst ((pairsO (ns.take i)).map V.int))) ⟨_, rfl, s1, g1⟩ (fun i σ' H' _ ⟨_, _, s, _⟩ => Same.tup s h) ?_ ?_
    · rintro i x σ' H' hx ⟨v2, rfl, s2, g2⟩
      rw [List.getElem?_map] at hx
      obtain ⟨z, hz, rfl⟩ := Option.map_eq_some_iff.mp hx
      walk_at "go"
      rename_i H3 l3 s3 n3 g3
      have hil := (List.getElem?_eq_some_iff.mp hz).1
      refine r_ext (s3 _ _ g2) g3 (by rw [List.length_map, List.length_map, pairsO_len, List.length_take, octN_len]; have : (2 : Int).toNat = 2 := rfl; omega) ?_
      generalize hH : upd _ _ _ = H4
      have g4 := Sg.at_new hH
      have s4 : Same H H4 := Sg.Same.old (s2.trans s3) no hH
      walk_at "go"
      refine ⟨_, rfl, s4, ?_⟩
      rw [g4, List.take_add_one, hz, ← List.map_append]
      show some (HO.lst (List.map V.int (pairsO (ns.take i) ++ octN z 2))) = some (HO.lst (List.map V.int (pairsO (ns.take i ++ [z]))))
      rw [pairsO_snoc]
    · rintro σ' H' ⟨v2, rfl, s2, g2⟩
      rw [List.length_map, List.take_length] at g2
      walk_at "go"
      exact q _ _ s2 no g2
def sp_bits (K : PySem.W.Frag) (C : Addr) : Sp := fun args_ H Q _ => ∃ (p u : Addr) (L : Lay) (us : List Nat), args_ = [.ref p, .ref u] ∧ LayAt C L H p ∧ LayS L ∧ SqT K H u ((idsOf us).map V.int) ∧ us.Pairwise (· < ·) ∧ (∀ x ∈ us, x < L.last.toNat) ∧ us.length ≤ 1000 ∧ ∀ (H' : Hp) (l : Addr), Same H H' → H l = none → H' l = some (.lst ((bitsO L.last.toNat us).map V.int)) → Q (.ref l) H'
theorem i_bits {K : PySem.W.Frag} {C : Addr} {args_ : List V} {H : Hp} {Q : V → Hp → Prop} {E : XK} {p u : Addr} {L : Lay} {us : List Nat} (ev : args_ = [.ref p, .ref u]) (hL : LayAt C L H p) (hS : LayS L) (hu : SqT K H u ((idsOf us).map V.int)) (h3 : us.Pairwise (· < ·)) (h4 : (∀ x ∈ us, x < L.last.toNat)) (hn : us.length ≤ 1000) (q : ∀ (H' : Hp) (l : Addr), Same H H' → H l = none → H' l = some (.lst ((bitsO L.last.toNat us).map V.int)) → Q (.ref l) H') : sp_bits K C args_ H Q E := ⟨p, u, L, us, ev, hL, hS, hu, h3, h4, hn, q⟩
local macro_rules | `(tactic| walk_at "ca1") => `(tactic| with_reducible (refine' Sg.i_bits ?ev ?hL ?hS ?hu ?h3 ?h4 ?hn ?_; (case ev => (with_unfolding_all rfl)); (case hL => (with_unfolding_all walk_at "pr")); (case hS => (with_unfolding_all walk_at "pr")); (case hu => (with_unfolding_all walk_at "pr")); (case h3 => (with_unfolding_all walk_at "pr")); (case h4 => (with_unfolding_all walk_at "pr")); (case hn => (with_unfolding_all walk_at "pr")); intros))

theorem ok_bits (T : Txt K mg) : FnOk P w K mg base CX0 2 T.a_bits T.fd_bits ["layout", "used"] (sp_bits K T.A_Layout) := by
  refine T.F_bits.ok sc_bits (fun vs H Q E h => ?_) (fun cdv A outer s H vs Q E hr h => ?_)
  · obtain ⟨p, u, L, us, rfl, _⟩ := h
    rfl
  · refine ⟨_, (pss_cons (ps_set (i := 2) sc_bits.nd rfl (Or.inl rfl) (pe_callTy (c_set rfl) (by rfl) T.n_set (by decide +kernel) (pa_cons (pv 1) pa_nil)))
       (pss_cons (ps_set (i := 3) sc_bits.nd rfl (Or.inl rfl) (pe_op op_rep (pe_lst (pa_cons pe_int pa_nil)) (pe_call (ok_parts_of T) (hr.mono (by decide)) rfl T.m_parts_of T.F_parts_of.kp T.b_parts_of .nil pass0 (pa_cons (pe_fld (pv 0) rfl) (pa_cons pe_int pa_nil)))))
       (pss_cons (ps_for PassesOwn.never rfl (pi_range1 rfl T.n_range (pa_cons (pe_fld (pv 0) rfl) pa_nil)) (pg_name (i := 4) sc_bits.nd rfl (Or.inl rfl))
       (pss_one (ps_if (pt_cmpR or_inS (pe_op op_add (pv 4) pe_int) (pv 2) (by with_unfolding_all rfl))
       (pss_one (ps_augS (pv 3) (pe_op op_fdiv (pv 4) pe_int) get_list (pe_op op_shlW pe_int (pe_op op_mod (pv 4) pe_int)) ip_add set_list))
       pss_nil)))
       (pss_one (ps_ret (pv 3)))))), ?_⟩
    try dsimp only [cxOf, Cx.nox, Cx.wish]
    obtain ⟨p, u, L, us, rfl, hL, hS, hu, h3, h4, hn, q⟩ := h
    have cl_Layout := T.cl_Layout
    have na_Layout_last_id := T.na_Layout_last_id
    obtain ⟨dx, fs, hp, F⟩ := id hL
    have lk1 := F.last
    have l0 := hS.c.l0
    have l1 := hS.c.l1
    walk_at "go"
    refine r_setOf _ (.inr hu) (by rw [idsOf_len]; omega) (fun D c nD => ?_)
    generalize hH : upd _ _ _ = H1
    have s1 := Same.of_new hH nD
    have g1 := Sg.at_new hH
    clear hH
    walk_at "go"
    rename_i l2 n2 H2 s2 g2 o no H3 s3 g3
    have n3 : H o = none := (s1.trans s2).free no
    have g1' := s2 _ _ g1
    have s12 := s1.trans s2
    rw [show ∀ k : Nat, List.replicate k (V.int 0) = (List.replicate k (0 : Int)).map V.int from fun k => List.map_replicate.symm] at g3
    have e8 : ((L.last + 8 - 1) / 8).toNat = (L.last.toNat + 7) / 8 := by omega
    rw [e8] at g3
    have Dn : D ≠ o := fun z => by rw [← z, s2 _ _ g1] at no; cases no
    clear g1 g2 n2 l2
    refine r_forR (fun i σ' H' => ∃ (v4 : Option V), σ' = [some (.ref p), some (.ref u), some (.ref D), some (.ref o), v4] ∧ Same H2 H' ∧ H' o = some (.lst ((((List.range i).filter (fun p => decide (p ∈ us))).foldl addBit (List.replicate ((L.last.toNat + 7) / 8) 0)).map V.int))) ⟨_, rfl, s3, g3⟩ ?_ ?_
    · clear g3 s3
      rintro i σ' H' hi ⟨v4, rfl, s4, g4⟩
      walk_at "go"
      refine r_inS (s4 _ _ g1') ?_
      rw [ids_mem]
      walk_at "go"
      refine to_ite (fun hc => ?_) (fun hc => ?_)
      · have hm : i ∈ us := of_decide_eq_true hc
        walk_at "go"
        generalize hrow : List.foldl addBit _ _ = row at g4
        have hrl : row.length = (L.last.toNat + 7) / 8 := by rw [← hrow, foldBit_len, List.length_replicate]
        rw [Int.zero_add]
        have z0 : 0 ≤ (i : Int) / 8 := by omega
        have z1 : (i : Int) / 8 < row.length := by omega
        have tn : ((i : Int) / 8).toNat = i / 8 := by omega
        refine r_ixl (.of g4) (at_ints z0 z1) ?_
        walk_at "go"
        rename_i y hy y0 y1
        obtain ⟨k, rfl⟩ := Int.eq_ofNat_of_zero_le y0
        have ek : k = i % 8 := by omega
        refine ⟨_, _, rfl, rfl, shl_ok (n := 1) (by decide) (by omega), ?_⟩
        walk_at "go"
        refine r_setl g4 (ixN_ok z0 (by rw [List.length_map]; exact z1)) ?_
        generalize hH : upd _ _ _ = H4
        have g5 := Sg.at_new hH
        have s5 : Same H2 H4 := Sg.Same.old s4 no hH
        walk_at "go"
        refine ⟨_, rfl, s5, ?_⟩
        rw [g5, set_ints, tn, List.range_succ, List.filter_append, List.filter_cons, if_pos hc, List.filter_nil, List.foldl_append, hrow]
        unfold List.foldl addBit
        rw [Int.toNat_natCast, Int.one_mul, ek]
        rfl
      · have hm : i ∉ us := of_decide_eq_false (by simpa using hc)
        walk_at "go"
        refine ⟨_, rfl, s4, ?_⟩
        rw [List.range_succ, List.filter_append, List.filter_cons, if_neg (by simpa using hm), List.filter_nil, List.append_nil]
        exact g4
    · rintro σ' H' ⟨v4, rfl, s4, g4⟩
      walk_at "go"
      rw [filt_in h3 h4] at g4
      exact q _ _ (s12.trans s4) n3 g4

/-! lists of ints, however they were made -/
def AreI (vs : List V) (xs : List Int) : Prop := vs = xs.map V.int
theorem AreI.map {xs : List Int} : AreI (xs.map V.int) xs := rfl
theorem AreI.nil : AreI [] [] := rfl
theorem AreI.cons {vs : List V} {xs : List Int} {x : Int} (h : AreI vs xs) : AreI (.int x :: vs) (x :: xs) := by rw [AreI, h]; rfl
theorem AreI.rep {k : Nat} {x : Int} : AreI (List.replicate k (.int x)) (List.replicate k x) := List.map_replicate.symm
theorem AreI.app {vs us : List V} {xs ys : List Int} (h : AreI vs xs) (h' : AreI us ys) : AreI (vs ++ us) (xs ++ ys) := by rw [AreI, h, h', List.map_append]
theorem head_len (k n : Int) : (headO k n).length = 7 := rfl
theorem r_catI {l p : Addr} {vs us : List V} {xs ys : List Int} {H : Hp} {Q : V → Hp → Prop} (h : H l = some (.lst vs)) (h' : H p = some (.lst us)) (e : AreI vs xs) (e' : AreI us ys) (hz : xs.length + ys.length ≤ 1000000)
    (q : ∀ (H' : Hp) (r : Addr), Same H H' → H r = none → H' r = some (.lst ((xs ++ ys).map V.int)) → Q (.ref r) H') : rCat (.ref l) (.ref p) H Q := by
  rw [AreI] at e e'
  subst e e'
  refine r_cat h h' (by rw [List.length_map, List.length_map, sz]; omega) fun r nr => ?_
  refine q _ r (Same.of_new rfl nr) nr ?_
  rw [upd_same, List.map_append]
theorem i_filledI {K : PySem.W.Frag} {args_ : List V} {H : Hp} {Q : V → Hp → Prop} {E : XK} {a : Addr} {vs : List V} {ns : List Int} {c : Int} (ev : args_ = [.ref a, .int c]) (h : H a = some (.lst vs)) (e : AreI vs ns) (hl : ns.length ≤ 1000) (c0 : 0 ≤ c) (c1 : c ≤ 1000)
    (q : ∀ H' l, Same H H' → H l = none → H' l = some (.lst ((filI ns c.toNat).map V.int)) → Q (.ref l) H') : sp_filled K args_ H Q E := by
  rw [AreI] at e
  subst e
  exact ⟨a, ns, c, ev, .of h, hl, c0, c1, q⟩
local macro_rules | `(tactic| walk_at "arei") => `(tactic| first | exact Sg.AreI.map | exact Sg.AreI.nil | exact Sg.AreI.rep | (refine' Sg.AreI.cons ?h; (case h => walk_at "arei")) | (refine' Sg.AreI.app ?h ?h'; (case h => walk_at "arei"); (case h' => walk_at "arei")))
local macro_rules | `(tactic| walk_at "ln") => `(tactic| first | omega | (simp only [List.length_append, List.length_map, List.length_cons, List.length_nil, Sg.octN_len, Sg.pairsO_len, Sg.filI_len, Sg.head_len, Sg.bitsO_len, List.length_replicate]; omega))
local macro_rules | `(tactic| walk_at "rd1") => `(tactic| with_reducible (refine' Sg.r_catI ?h ?h' ?e ?e' ?hz ?_; (case h => (with_unfolding_all walk_at "hp")); (case h' => (with_unfolding_all walk_at "hp")); (case e => walk_at "arei"); (case e' => walk_at "arei"); (case hz => (with_unfolding_all walk_at "ln")); intros))
local macro_rules | `(tactic| walk_at "ca1") => `(tactic| with_reducible (refine' Sg.i_filledI ?ev ?h ?e ?hl ?c0 ?c1 ?_; (case ev => (with_unfolding_all rfl)); (case h => (with_unfolding_all walk_at "hp")); (case e => walk_at "arei"); (case hl => (with_unfolding_all walk_at "ln")); (case c0 => omega); (case c1 => omega); intros))
local macro_rules | `(tactic| walk_at "pr") => `(tactic| with_reducible (refine' Sg.BodyAt.mono ?h1 ?h2; (case h1 => assumption); (case h2 => walk_at "pr")))
local macro_rules | `(tactic| walk_at "pr") => `(tactic| with_reducible (refine' Sg.BlkAt.mono ?h1 ?h2; (case h1 => assumption); (case h2 => walk_at "pr")))
def sp_body_octets (K : PySem.W.Frag) (C : Addr) : Sp := fun args_ H Q _ => ∃ (p v : Addr) (L : Lay) (b : BB), args_ = [.ref p, .int (kindB b), .ref v] ∧ LayAt C L H p ∧ LayS L ∧ BodyAt K H v b ∧ GoodB L b ∧ ∀ (H' : Hp) (l : Addr), Same H H' → H l = none → H' l = some (.lst ((bodyO L b).map V.int)) → Q (.ref l) H'
theorem i_body_octets {K : PySem.W.Frag} {C : Addr} {args_ : List V} {H : Hp} {Q : V → Hp → Prop} {E : XK} {p v : Addr} {L : Lay} {b : BB} (ev : args_ = [.ref p, .int (kindB b), .ref v]) (hL : LayAt C L H p) (hS : LayS L) (hb : BodyAt K H v b) (hg : GoodB L b) (q : ∀ (H' : Hp) (l : Addr), Same H H' → H l = none → H' l = some (.lst ((bodyO L b).map V.int)) → Q (.ref l) H') : sp_body_octets K C args_ H Q E := ⟨p, v, L, b, ev, hL, hS, hb, hg, q⟩
local macro_rules | `(tactic| walk_at "ca1") => `(tactic| with_reducible (refine' Sg.i_body_octets ?ev ?hL ?hS ?hb ?hg ?_; (case ev => (with_unfolding_all rfl)); (case hL => (with_unfolding_all walk_at "pr")); (case hS => (with_unfolding_all walk_at "pr")); (case hb => (with_unfolding_all walk_at "pr")); (case hg => (with_unfolding_all walk_at "pr")); intros))

theorem ok_body_octets (T : Txt K mg) : FnOk P w K mg base CX0 3 T.a_body_octets T.fd_body_octets ["layout", "kind", "body"] (sp_body_octets K T.A_Layout) := by
  refine T.F_body_octets.ok sc_body_octets (fun vs H Q E h => ?_) (fun cdv A outer s H vs Q E hr h => ?_)
  · obtain ⟨p, v, L, b, rfl, _⟩ := h
    rfl
  · refine ⟨_, (pss_cons (ps_if (pt_cmpR op_eq (pv 1) (pe_glob rfl T.c_COMMIT T.r_COMMIT) (nomark _))
       (pss_cons (ps_asg (pv 2) (pg_tup (by rfl) (pgs_cons (pg_name (i := 3) sc_body_octets.nd rfl (Or.inl rfl)) (pgs_cons (pg_name (i := 4) sc_body_octets.nd rfl (Or.inl rfl)) (pgs_cons (pg_name (i := 5) sc_body_octets.nd rfl (Or.inl rfl)) pgs_nil)))))
       (pss_cons (ps_set (i := 6) sc_body_octets.nd rfl (Or.inl rfl) (pe_op op_cat (pe_call (ok_summary_head T) (hr.mono (by decide)) rfl T.m_summary_head T.F_summary_head.kp T.b_summary_head .nil pass0 (pa_cons (pe_glob rfl T.c_COMMIT T.r_COMMIT) (pa_cons (pe_callB (c_len) (by rfl) T.n_len (by decide +kernel) (pa_cons (pv 3) pa_nil)) pa_nil))) (pe_lst (pa_cons (pv 5) pa_nil))))
       (pss_one (ps_ret (pe_op op_cat (pe_op op_cat (pe_call (ok_filled T) (hr.mono (by decide)) rfl T.m_filled T.F_filled.kp T.b_filled .nil pass0 (pa_cons (pv 6) (pa_cons (pe_glob rfl T.c_SUMMARY_HEAD T.r_SUMMARY_HEAD) pa_nil))) (pe_call (ok_filled T) (hr.mono (by decide)) rfl T.m_filled T.F_filled.kp T.b_filled .nil pass0 (pa_cons (pe_call (ok_pairs T) (hr.mono (by decide)) rfl T.m_pairs T.F_pairs.kp T.b_pairs .nil pass0 (pa_cons (pv 3) pa_nil)) (pa_cons (pe_op op_mul pe_int (pe_fld (pv 0) rfl)) pa_nil)))) (pe_call (ok_bits T) (hr.mono (by decide)) rfl T.m_bits T.F_bits.kp T.b_bits .nil pass0 (pa_cons (pv 0) (pa_cons (pv 4) pa_nil))))))))
       pss_nil)
       (pss_cons (ps_if (pt_cmpR op_eq (pv 1) (pe_glob rfl T.c_MOVE T.r_MOVE) (nomark _))
       (pss_one (ps_ret (pe_op op_cat (pe_call (ok_filled T) (hr.mono (by decide)) rfl T.m_filled T.F_filled.kp T.b_filled .nil pass0 (pa_cons (pe_call (ok_summary_head T) (hr.mono (by decide)) rfl T.m_summary_head T.F_summary_head.kp T.b_summary_head .nil pass0 (pa_cons (pe_glob rfl T.c_MOVE T.r_MOVE) (pa_cons (pe_callB (c_len) (by rfl) T.n_len (by decide +kernel) (pa_cons (pv 2) pa_nil)) pa_nil))) (pa_cons (pe_glob rfl T.c_SUMMARY_HEAD T.r_SUMMARY_HEAD) pa_nil))) (pe_call (ok_pairs T) (hr.mono (by decide)) rfl T.m_pairs T.F_pairs.kp T.b_pairs .nil pass0 (pa_cons (pv 2) pa_nil)))))
       pss_nil)
       (pss_cons (ps_if (pt_cmpR op_eq (pv 1) (pe_glob rfl T.c_DATA T.r_DATA) (nomark _))
       (pss_one (ps_ret (pe_callTy c_list (by rfl) T.n_list (by decide +kernel) (pa_cons (pv 2) pa_nil))))
       pss_nil)
       (pss_one (ps_ret (pe_call (ok_pairs T) (hr.mono (by decide)) rfl T.m_pairs T.F_pairs.kp T.b_pairs .nil pass0 (pa_cons (pv 2) pa_nil))))))), ?_⟩
    try dsimp only [cxOf, Cx.nox, Cx.wish]
    obtain ⟨p, v, L, b, rfl, hL, hS, hb, hg, q⟩ := h
    have cl_Layout := T.cl_Layout
    have na_Layout_payload := T.na_Layout_payload
    obtain ⟨dx, fs, hp, F⟩ := id hL
    have lk1 := F.pay
    have lk2 := F.size
    have p0 := hS.c.pay
    have b0 := hS.c.b0
    have b1 := hS.c.b1
    have l0 := hS.c.l0
    have l1 := hS.c.l1
    have z1 := hS.c.z1
    have f1 := hS.c.f1
    cases b with
    | cm ids us a =>
      obtain ⟨i, u, hv, hi, hu⟩ := hb
      obtain ⟨h1, h2, h3, h4, h5, h6⟩ := hg
      have hn : us.length ≤ 1000 := by
        have := congrArg List.length (filt_in h3 h4)
        have := List.length_filter_le (fun p => decide (p ∈ us)) (List.range L.last.toNat)
        rw [List.length_range] at this
        omega
      have k1 : kindB (BB.cm ids us a) = 1 := rfl
      have n1 : ids.length ≤ 1000 := by omega
      rw [k1]
      walk_at "go"
      rename_i g
      rw [List.length_map] at g
      exact q _ _ (by walk_at "sm") (by walk_at "nn") g
    | ot k ns =>
      obtain ⟨h1, h2, h3, h4, h5, h6⟩ := hg
      have k1 : kindB (BB.ot k ns) = k := rfl
      have hb' : SqT K H v (ns.map V.int) := hb
      have n1 : ns.length ≤ 1000 := by
        rcases (by omega : k = 2 ∨ k = 3 ∨ 4 ≤ k) with z | z | z
        · have := h4 z; omega
        · have := h5 z; omega
        · have := h6 z; omega
      rw [k1]
      rcases (by omega : k = 2 ∨ k = 3 ∨ 4 ≤ k) with z | z | z
      · subst z
        walk_at "go"
        rename_i g
        rw [List.length_map] at g
        exact q _ _ (by walk_at "sm") (by walk_at "nn") g
      · subst z
        walk_at "go"
        rename_i g
        exact q _ _ (by walk_at "sm") (by walk_at "nn") g
      · walk_at "go"
        rename_i g
        refine q _ _ (by walk_at "sm") (by walk_at "nn") (g.trans ?_)
        have eb : bodyO L (.ot k ns) = pairsO ns := by
          show (if k = 2 then _ else if k = 3 then _ else _) = _
          rw [if_neg (by omega), if_neg (by omega)]
        rw [eb]
def sp_block_octets (K : PySem.W.Frag) (C : Addr) : Sp := fun args_ H Q _ => ∃ (p : Addr) (v : V) (L : Lay) (o : Option BM), args_ = [.ref p, v] ∧ LayAt C L H p ∧ LayS L ∧ BlkAt K H v o ∧ (∀ m, o = some m → GoodM L m) ∧ ∀ (H' : Hp) (l : Addr), Same H H' → H l = none → H' l = some (.lst ((blkO L o).map V.int)) → Q (.ref l) H'
theorem i_block_octets {K : PySem.W.Frag} {C : Addr} {args_ : List V} {H : Hp} {Q : V → Hp → Prop} {E : XK} {p : Addr} {v : V} {L : Lay} {o : Option BM} (ev : args_ = [.ref p, v]) (hL : LayAt C L H p) (hS : LayS L) (hb : BlkAt K H v o) (hg : (∀ m, o = some m → GoodM L m)) (q : ∀ (H' : Hp) (l : Addr), Same H H' → H l = none → H' l = some (.lst ((blkO L o).map V.int)) → Q (.ref l) H') : sp_block_octets K C args_ H Q E := ⟨p, v, L, o, ev, hL, hS, hb, hg, q⟩
local macro_rules | `(tactic| walk_at "ca1") => `(tactic| with_reducible (refine' Sg.i_block_octets ?ev ?hL ?hS ?hb ?hg ?_; (case ev => (with_unfolding_all rfl)); (case hL => (with_unfolding_all walk_at "pr")); (case hS => (with_unfolding_all walk_at "pr")); (case hb => (with_unfolding_all walk_at "pr")); (case hg => (with_unfolding_all walk_at "pr")); intros))

theorem ok_block_octets (T : Txt K mg) : FnOk P w K mg base CX0 4 T.a_block_octets T.fd_block_octets ["layout", "block"] (sp_block_octets K T.A_Layout) := by
  refine T.F_block_octets.ok sc_block_octets (fun vs H Q E h => ?_) (fun cdv A outer s H vs Q E hr h => ?_)
  · obtain ⟨p, v, L, o, rfl, _⟩ := h
    rfl
  · refine ⟨_, (pss_cons (ps_if (pt_cmp (pc_isN (pv 1)) rfl)
       (pss_one (ps_ret (pe_op op_rep (pe_lst (pa_cons pe_int pa_nil)) (pe_op op_add (pe_glob rfl T.c_SPARE_OCTETS T.r_SPARE_OCTETS) (pe_fld (pv 0) rfl)))))
       pss_nil)
       (pss_cons (ps_asg (pv 1) (pg_tup (by rfl) (pgs_cons (pg_name (i := 2) sc_block_octets.nd rfl (Or.inl rfl)) (pgs_cons (pg_name (i := 3) sc_block_octets.nd rfl (Or.inl rfl)) (pgs_cons (pg_name (i := 4) sc_block_octets.nd rfl (Or.inl rfl)) (pgs_cons (pg_name (i := 5) sc_block_octets.nd rfl (Or.inl rfl)) pgs_nil))))))
       (pss_cons (ps_set (i := 6) sc_block_octets.nd rfl (Or.inl rfl) (pe_op op_cat (pe_op op_cat (pe_lst (pa_cons (pv 2) pa_nil)) (pe_call (ok_number_octets T) (hr.mono (by decide)) rfl T.m_number_octets T.F_number_octets.kp T.b_number_octets .nil pass0 (pa_cons (pv 3) (pa_cons pe_int pa_nil)))) (pe_call (ok_number_octets T) (hr.mono (by decide)) rfl T.m_number_octets T.F_number_octets.kp T.b_number_octets .nil pass0 (pa_cons (pv 4) (pa_cons pe_int pa_nil)))))
       (pss_one (ps_ret (pe_op op_cat (pe_call (ok_filled T) (hr.mono (by decide)) rfl T.m_filled T.F_filled.kp T.b_filled .nil pass0 (pa_cons (pv 6) (pa_cons (pe_glob rfl T.c_SPARE_OCTETS T.r_SPARE_OCTETS) pa_nil))) (pe_call (ok_filled T) (hr.mono (by decide)) rfl T.m_filled T.F_filled.kp T.b_filled .nil pass0 (pa_cons (pe_call (ok_body_octets T) (hr.mono (by decide)) rfl T.m_body_octets T.F_body_octets.kp T.b_body_octets .nil pass0 (pa_cons (pv 0) (pa_cons (pv 2) (pa_cons (pv 5) pa_nil)))) (pa_cons (pe_fld (pv 0) rfl) pa_nil))))))))), ?_⟩
    try dsimp only [cxOf, Cx.nox, Cx.wish]
    obtain ⟨p, v, L, o, rfl, hL, hS, hb, hg, q⟩ := h
    have cl_Layout := T.cl_Layout
    have na_Layout_block_size := T.na_Layout_block_size
    obtain ⟨dx, fs, hp, F⟩ := id hL
    have lk2 := F.size
    have z0 := hS.c.z0
    have z1 := hS.c.z1
    cases o with
    | none =>
      have hb' : v = .non := hb
      subst hb'
      walk_at "go"
      rename_i g
      refine q _ _ (by walk_at "sm") (by walk_at "nn") (g.trans ?_)
      rw [← List.map_replicate]
      rfl
    | some m =>
      obtain ⟨t, b, rfl, ht, hb'⟩ := hb
      obtain ⟨m1, m2, m3, m4, hg'⟩ := hg m rfl
      have hLn : (bodyO L m.b).length ≤ 1000 := bodyO_len hS hg'
      walk_at "go"
      rename_i g
      exact q _ _ (by walk_at "sm") (by walk_at "nn") g

/-! ### comprehensions whose items follow from what is walked; slices of lists of ints -/
theorem r_lcF {α : Type} {J : It} {n slot : Nat} {G : Hp → Prop} {Y : Nat → Hp → V → Hp → Prop} {vs : List Nat} {te : TE} {σ : L2.St} {H : Hp} {Q : V → Hp → Prop} (w : Walk J n G Y) (xs : List α) (hn : xs.length = n) (hmax : n ≤ 100000) (g f : α → V)
    (hY : ∀ i H x H', Y i H x H' → H' = H ∧ ∃ u, xs[i]? = some u ∧ x = g u) (hG : ∀ H', L2.Same H H' → G H') (hv : vs = [slot])
    (hs : ∀ (i : Nat) (u : α) (H' : Hp), xs[i]? = some u → L2.Same H H' → ∀ R : V → Hp → Prop, (∀ H'', L2.Same H' H'' → R (f u) H'') → te ((wipe σ vs).set slot (some (g u))) H' R)
    (q : ∀ (H' : Hp) (l : Addr), L2.Same H H' → H l = none → H' l = some (.lst (xs.map f)) → Q (.ref l) H') : kLc (gName slot) tYes te vs σ Q J H := by
  intro L hL
  have hw : ∀ (τ : L2.St) (x : V), wipe (τ.set slot (some x)) [slot] = wipe τ [slot] := fun τ x => by simp [wipe, List.set_set]
  have hw2 : wipe (wipe σ vs) vs = wipe σ vs := by subst hv; simp [wipe, List.set_set]
  refine lc_it w (fun i H' => H' L = some (.lst ((xs.take i).map f)) ∧ L2.Same H H') ⟨upd_same, fun b o e => by rw [upd_ne (ne_of_none e hL)]; exact e⟩ (fun i H' _ p => hG H' p.2) ?_ ?_
  · rintro i x H' H'' hi ⟨eL, s⟩ y
    obtain ⟨rfl, u, hu, rfl⟩ := hY _ _ _ _ y
    refine ⟨?_, ?_⟩
    · subst hv
      rw [hw]
      exact hw2
    · show te ((wipe σ vs).set slot (some (g u))) H'' _
      refine hs i u _ hu s _ fun H3 s3 => ⟨_, s3 _ _ eL, ?_, ?_, ?_⟩
      · rw [List.length_map, List.length_take, sz]
        omega
      · rw [upd_same, List.take_add_one, hu, List.map_append]
        rfl
      · intro b o e
        rw [upd_ne (ne_of_none e hL)]
        exact s3 _ _ (s _ _ e)
  · rintro H' ⟨eL, s⟩
    rw [← hn, List.take_length] at eL
    exact q H' L s hL eL
theorem zip_snd' : ∀ (rs : List Addr) (zs : List Int), rs.length = zs.length → (rs.zip zs).map (fun u => V.int u.2) = zs.map V.int
  | [], [], _ => rfl
  | r :: rs, z :: zs, h => by
    rw [List.zip_cons_cons, List.map_cons, List.map_cons, zip_snd' rs zs (by simpa using h)]
  | [], _ :: _, h => by cases h
  | _ :: _, [], h => by cases h
/-- [e for r in rs], rs addresses, e ints known by their places -/
theorem r_lcRV {K : PySem.W.Frag} {a : Addr} {rs : List Addr} {zs : List Int} {slot : Nat} {vs : List Nat} {te : TE} {σ : L2.St} {H : Hp} {Q : V → Hp → Prop} (hx : SqL K H a (rs.map V.ref)) (hz : rs.length = zs.length) (hmax : rs.length ≤ 100000) (hv : vs = [slot])
    (hs : ∀ (i : Nat) (r : Addr) (z : Int) (H' : Hp), rs[i]? = some r → zs[i]? = some z → L2.Same H H' → ∀ R : V → Hp → Prop, (∀ H'', L2.Same H' H'' → R (.int z) H'') → te ((wipe σ vs).set slot (some (.ref r))) H' R)
    (q : ∀ (H' : Hp) (l : Addr), L2.Same H H' → H l = none → H' l = some (.lst (zs.map V.int)) → Q (.ref l) H') : kLc (gName slot) tYes te vs σ Q (Itl K a) H := by
  refine r_lcF (walk_list (K := K) (a := a) (xs := rs.map V.ref)) (rs.zip zs) (by rw [List.length_zip, List.length_map]; omega) (by rw [List.length_map]; exact hmax) (fun u => V.ref u.1) (fun u => V.int u.2) (fun i H x H' ⟨e, hx⟩ => ?_) (fun H' s => s.seq hx) hv (fun i u H' hu s R hR => ?_) (fun H' l s n g => q H' l s n (by rw [g, zip_snd' rs zs hz]))
  · rw [List.getElem?_map] at hx
    obtain ⟨r, hr, rfl⟩ := Option.map_eq_some_iff.mp hx
    have hi := (List.getElem?_eq_some_iff.mp hr).1
    refine ⟨e, (r, zs[i]'(by omega)), ?_, rfl⟩
    rw [List.getElem?_zip_eq_some]
    exact ⟨hr, List.getElem?_eq_getElem _⟩
  · obtain ⟨r, z⟩ := u
    obtain ⟨h1, h2⟩ := List.getElem?_zip_eq_some.mp hu
    exact hs i r z H' h1 h2 s R hR
/-- [f i for i in range if b i] -/
theorem r_lcFX {lo : Int} {n slot : Nat} {vs : List Nat} {tt : TT} {te : TE} {σ : L2.St} {H : Hp} {Q : V → Hp → Prop} (b : Nat → Bool) (f : Nat → Int) (hn : n ≤ 100000) (hv : vs = [slot])
    (ht : ∀ (i : Nat) (H' : Hp), i < n → L2.Same H H' → ∀ R : Bool → Hp → Prop, R (b i) H' → tt ((wipe σ vs).set slot (some (.int (lo + i)))) H' R)
    (he : ∀ (i : Nat) (H' : Hp), i < n → L2.Same H H' → ∀ R : V → Hp → Prop, R (.int (f i)) H' → te ((wipe σ vs).set slot (some (.int (lo + i)))) H' R)
    (q : ∀ (H' : Hp) (l : Addr), L2.Same H H' → H l = none → H' l = some (.lst ((((List.range n).filter b).map f).map V.int)) → Q (.ref l) H') :
    kLc (gName slot) tt te vs σ Q (Itr lo n) H := by
  intro L hL
  have hw : ∀ (τ : L2.St) (x : V), wipe (τ.set slot (some x)) [slot] = wipe τ [slot] := fun τ x => by simp [wipe, List.set_set]
  have hw2 : wipe (wipe σ vs) vs = wipe σ vs := by subst hv; simp [wipe, List.set_set]
  refine lc_range (fun i H' => H' L = some (.lst ((((List.range i).filter b).map f).map V.int)) ∧ L2.Same H H') ⟨upd_same, fun b o e => by rw [upd_ne (ne_of_none e hL)]; exact e⟩ ?_ ?_
  · rintro i H' hi ⟨eL, s⟩
    refine ⟨?_, ?_⟩
    · subst hv
      rw [hw]
      exact hw2
    · show tt ((wipe σ vs).set slot (some (.int (lo + i)))) H' _
      refine ht i H' hi s _ ?_
      refine to_ite (fun hb => ?_) (fun hb => ?_)
      · refine he i H' hi s _ ⟨_, eL, ?_, ?_, fun b o e => by rw [upd_ne (ne_of_none e hL)]; exact s _ _ e⟩
        · rw [List.length_map, List.length_map, sz]
          have := List.length_filter_le b (List.range i)
          rw [List.length_range] at this
          omega
        · rw [upd_same, List.range_succ, List.filter_append, List.filter_cons, if_pos hb, List.filter_nil, List.map_append, List.map_append]
          rfl
      · refine ⟨?_, s⟩
        rw [List.range_succ, List.filter_append, List.filter_cons, if_neg (by simpa using hb), List.filter_nil, List.append_nil]
        exact eL
  · rintro H' ⟨eL, s⟩
    exact q H' L s hL eL
theorem r_slF {K : PySem.W.Frag} {H : Hp} {a : Addr} {vs : List V} {ns : List Int} {lo : Int} {Q : V → Hp → Prop} (h : SqL K H a vs) (e : AreI vs ns) (h0 : 0 ≤ lo) (q : ∀ (H' : Hp) (p : Addr), Same H H' → H p = none → H' p = some (.lst ((ns.drop lo.toNat).map V.int)) → Q (.ref p) H') : rSlL K (.ref a) (some lo) none H Q := by
  rw [AreI] at e
  subst e
  refine ⟨a, _, rfl, h, fun p np => q _ p (Same.of_new rfl np) np ?_⟩
  rw [upd_same, cut_from h0, List.map_drop]
theorem r_slT' {K : PySem.W.Frag} {H : Hp} {a : Addr} {vs : List V} {ns : List Int} {hi : Int} {Q : V → Hp → Prop} (h : SqL K H a vs) (e : AreI vs ns) (h0 : 0 ≤ hi) (q : ∀ (H' : Hp) (p : Addr), Same H H' → H p = none → H' p = some (.lst ((ns.take hi.toNat).map V.int)) → Q (.ref p) H') : rSlL K (.ref a) none (some hi) H Q := by
  rw [AreI] at e
  subst e
  refine ⟨a, _, rfl, h, fun p np => q _ p (Same.of_new rfl np) np ?_⟩
  rw [upd_same, cut_to h0, List.map_take]
theorem r_slB {K : PySem.W.Frag} {H : Hp} {a : Addr} {vs : List V} {ns : List Int} {lo hi : Int} {Q : V → Hp → Prop} (h : SqL K H a vs) (e : AreI vs ns) (h0 : 0 ≤ lo) (h1 : 0 ≤ hi) (q : ∀ (H' : Hp) (p : Addr), Same H H' → H p = none → H' p = some (.lst (((ns.drop lo.toNat).take (hi.toNat - lo.toNat)).map V.int)) → Q (.ref p) H') : rSlL K (.ref a) (some lo) (some hi) H Q := by
  rw [AreI] at e
  subst e
  refine ⟨a, _, rfl, h, fun p np => q _ p (Same.of_new rfl np) np ?_⟩
  rw [upd_same, cut_both h0 h1, List.map_take, List.map_drop]
local macro_rules | `(tactic| walk_at "rd1") => `(tactic| with_reducible (first | (refine' Sg.r_slF ?h ?e ?h0 ?_; (case h => (with_unfolding_all walk_at "hp")); (case e => walk_at "arei"); (case h0 => omega); intros) | (refine' Sg.r_slT' ?h ?e ?h0 ?_; (case h => (with_unfolding_all walk_at "hp")); (case e => walk_at "arei"); (case h0 => omega); intros) | (refine' Sg.r_slB ?h ?e ?h0 ?h1 ?_; (case h => (with_unfolding_all walk_at "hp")); (case e => walk_at "arei"); (case h0 => omega); (case h1 => omega); intros)))
set_option maxRecDepth 100000 in
theorem rgc2 {n : Nat} (h : n ≤ 100000) : RgC 0 (n : Int) 2 ((n + 1) / 2) := by
  have e := PyProof.Rows.rangeSize_pos (len := (n : Int)) (c := 2) (by decide) (by omega)
  refine ⟨by decide, by decide, ?_, by rw [e]; omega⟩
  unfold Builtin.Range.small
  rw [e]
  have f : ∀ i : Int, -(2 ^ 62) ≤ i → i < 2 ^ 62 → Builtin.Range.rangeFitsLong i = true := fun i h1 h2 => by
    unfold Builtin.Range.rangeFitsLong
    rw [Bool.and_eq_true, decide_eq_true_iff, decide_eq_true_iff]
    omega
  rw [f 0 (by decide) (by decide), f n (by omega) (by omega), f 2 (by decide) (by decide), f _ (by omega) (by omega), if_pos (by decide), f _ (by omega) (by omega), Bool.or_true]
  rfl

def sp_pieces (K : PySem.W.Frag) : Sp := fun args_ H Q _ => ∃ (a : Addr) (ns : List Int) (c : Int) (n : Nat), args_ = [.ref a, .int c] ∧ SqL K H a (ns.map V.int) ∧ RgC 0 ns.length c n ∧ n ≤ 1000 ∧ 0 ≤ c ∧ ∀ (H' : Hp) (l : Addr) (rs : List Addr), Same H H' → H l = none → H' l = some (.lst (rs.map V.ref)) → rs.length = n → (∀ i r, rs[i]? = some r → H' r = some (.lst (((ns.drop (i * c.toNat)).take c.toNat).map V.int))) → Q (.ref l) H'
theorem i_pieces {K : PySem.W.Frag} {args_ : List V} {H : Hp} {Q : V → Hp → Prop} {E : XK} {a : Addr} {ns : List Int} {c : Int} {n : Nat} (ev : args_ = [.ref a, .int c]) (h : SqL K H a (ns.map V.int)) (hr : RgC 0 ns.length c n) (hn : n ≤ 1000) (hc : 0 ≤ c) (q : ∀ (H' : Hp) (l : Addr) (rs : List Addr), Same H H' → H l = none → H' l = some (.lst (rs.map V.ref)) → rs.length = n → (∀ i r, rs[i]? = some r → H' r = some (.lst (((ns.drop (i * c.toNat)).take c.toNat).map V.int))) → Q (.ref l) H') : sp_pieces K args_ H Q E := ⟨a, ns, c, n, ev, h, hr, hn, hc, q⟩
local macro_rules | `(tactic| walk_at "ca1") => `(tactic| with_reducible (refine' Sg.i_pieces ?ev ?h ?hr ?hn ?hc ?_; (case ev => (with_unfolding_all rfl)); (case h => (with_unfolding_all walk_at "pr")); (case hr => (with_unfolding_all walk_at "pr")); (case hn => (with_unfolding_all walk_at "pr")); (case hc => (with_unfolding_all walk_at "pr")); intros))

theorem ok_pieces (T : Txt K mg) : FnOk P w K mg base CX0 1 T.a_pieces T.fd_pieces ["numbers", "size"] (sp_pieces K) := by
  refine T.F_pieces.ok sc_pieces (fun vs H Q E h => ?_) (fun cdv A outer s H vs Q E hr h => ?_)
  · obtain ⟨a, ns, c, n, rfl, _⟩ := h
    rfl
  · refine ⟨_, (pss_one (ps_ret (pe_lc (own := [("start", 2)]) (g := gName 2) (tt := tYes) rfl sc_pieces.nd (pi_range3 rfl T.n_range (pa_cons pe_int (pa_cons (pe_callB (c_len) (by rfl) T.n_len (by decide +kernel) (pa_cons (pv 0) pa_nil)) (pa_cons (pv 1) pa_nil)))) (blkOk_by (own := [("start", 2)]) (N := n_pieces) (sc := defScope s_pieces) (by decide +kernel)) (fun _ _ _ _ _ => pg_name (i := 2) sc_pieces.nd rfl (Or.inl rfl)) (fun _ _ _ _ _ => pts_nil) (fun _ _ _ _ _ => (pe_slice (sl_listK (K := K) rfl) (pv 0) (po_some (pv 2)) (po_some (pe_op op_add (pv 2) (pv 1)))))))), ?_⟩
    try dsimp only [cxOf, Cx.nox, Cx.wish]
    obtain ⟨a, ns, c, n, rfl, h, hr, hn, hc, q⟩ := h
    walk_at "go"
    refine r_irng3 ?_
    walk_at "go"
    rw [List.length_map]
    refine r_kR3 hr ?_
    refine r_lcFn walk_rangeC (fun i acc H' => ∃ rs : List Addr, acc = rs.map V.ref ∧ rs.length = i ∧ ∀ j r, rs[j]? = some r → H' r = some (.lst (((ns.drop (j * c.toNat)).take c.toNat).map V.int))) (by omega) rfl ⟨[], rfl, rfl, fun j r hj => by simp at hj⟩ ?_ ?_
    · intro i acc H0 H1 hi s0 hP s1 R hR
      have h1 := (s0.trans s1).seq h
      walk_at "go"
      rename_i p np H2 s2 g2
      refine hR _ _ s2 fun D d0 d1 => ?_
      obtain ⟨rs, rfl, rl, hrs⟩ := hP
      have pD : p ≠ D := fun z => by rw [z, d1] at np; cases np
      refine ⟨rs ++ [p], by rw [List.map_append]; rfl, by rw [List.length_append, rl]; rfl, fun j r hj => ?_⟩
      rcases Nat.lt_or_ge j rs.length with y | y
      · rw [List.getElem?_append_left y] at hj
        have e := hrs j r hj
        have rD : r ≠ D := fun z => by rw [z, d0] at e; cases e
        rw [hid_ne rD]
        exact s2 _ _ (s1 _ _ e)
      · rw [List.getElem?_append_right y] at hj
        have hj1 := (List.getElem?_eq_some_iff.mp hj).1
        have j0 : j - rs.length = 0 := by simpa using hj1
        rw [j0] at hj
        cases hj
        have ic : 0 ≤ (i : Int) * c := Int.mul_nonneg (Int.natCast_nonneg i) hc
        have e1 : ((0 : Int) + (i : Nat) * c).toNat = i * c.toNat := by
          rw [Int.zero_add, Int.toNat_mul (by omega) hc]
          rfl
        have e2 : ((0 : Int) + (i : Nat) * c + c).toNat = i * c.toNat + c.toNat := by
          rw [Int.toNat_add (by omega) hc, e1]
        rw [hid_ne pD, g2, cut_both (by omega) (by omega), e1, e2, ← List.map_drop, ← List.map_take, Nat.add_sub_cancel_left]
        rw [show j = i by omega]
    · intro H' l acc s n g al hP
      obtain ⟨rs, rfl, rl, hrs⟩ := hP
      exact q _ _ rs s n g rl fun i r hi => hid_same _ _ (hrs i r hi)

/-! ### blocks read -/
theorem val_drop {ns : List Int} {i : Nat} {z : Int} (h : ns[i]? = some z) : val (ns.drop i) = val (ns.drop (i + 1)) * 256 + z := by
  obtain ⟨hi, e⟩ := List.getElem?_eq_some_iff.mp h
  rw [List.drop_eq_getElem_cons hi, e, val]
def sp_number_of (K : PySem.W.Frag) : Sp := fun args_ H Q _ => ∃ (a : Addr) (ns : List Int), args_ = [.ref a] ∧ SqL K H a (ns.map V.int) ∧ Q (.int (val ns)) H
theorem i_number_of {K : PySem.W.Frag} {args_ : List V} {H : Hp} {Q : V → Hp → Prop} {E : XK} {a : Addr} {ns : List Int} (ev : args_ = [.ref a]) (hS : SqL K H a (ns.map V.int)) (q : Q (.int (val ns)) H) : sp_number_of K args_ H Q E := ⟨a, ns, ev, hS, q⟩
local macro_rules | `(tactic| walk_at "ca1") => `(tactic| with_reducible (refine' Sg.i_number_of ?ev ?hS ?_; (case ev => (with_unfolding_all rfl)); (case hS => (with_unfolding_all walk_at "pr"))))

theorem ok_number_of (T : Txt K mg) : FnOk P w K mg base CX0 1 T.a_number_of T.fd_number_of ["octets"] (sp_number_of K) := by
  refine T.F_number_of.ok sc_number_of (fun vs H Q E h => ?_) (fun cdv A outer s H vs Q E hr h => ?_)
  · obtain ⟨a, ns, rfl, _⟩ := h
    rfl
  · refine ⟨_, (pss_cons (ps_set (i := 1) sc_number_of.nd rfl (Or.inl rfl) pe_int)
       (pss_cons (ps_for PassesOwn.never rfl (pi_reversed (by rfl) T.n_reversed (pa_cons (pv 0) pa_nil)) (pg_name (i := 2) sc_number_of.nd rfl (Or.inl rfl))
       (pss_one (ps_set (i := 1) sc_number_of.nd rfl (Or.inl rfl) (pe_op op_add (pe_op op_mul (pv 1) pe_int) (pv 2)))))
       (pss_one (ps_ret (pv 1))))), ?_⟩
    try dsimp only [cxOf, Cx.nox, Cx.wish]
    obtain ⟨a, ns, rfl, hS, q⟩ := h
    walk_at "go"
    refine r_forV (fun i σ' H' => ∃ v2 : Option V, σ' = [some (.ref a), some (.int (val (ns.drop (ns.length - i)))), v2] ∧ H = H') ⟨none, by rw [Nat.sub_zero, List.drop_length]; rfl, rfl⟩ (fun _ _ _ _ ⟨_, _, e⟩ => e ▸ hS) ?_ ?_
    · rintro i x σ' H' hi hx ⟨v2, rfl, rfl⟩
      rw [List.length_map] at hi hx
      rw [List.getElem?_map] at hx
      obtain ⟨z, hz, rfl⟩ := Option.map_eq_some_iff.mp hx
      have e := val_drop hz
      rw [show ns.length - 1 - i + 1 = ns.length - i from by omega, show ns.length - 1 - i = ns.length - (i + 1) from by omega] at e
      walk_at "go"
      rw [← e]
      exact ⟨_, rfl, rfl⟩
    · rintro σ' H' ⟨v2, rfl, rfl⟩
      rw [List.length_map, Nat.sub_self, List.drop_zero]
      walk_at "go"
      exact q

theorem i_pieces2 {K : PySem.W.Frag} {args_ : List V} {H : Hp} {Q : V → Hp → Prop} {E : XK} {a : Addr} {ns : List Int} (ev : args_ = [.ref a, .int 2]) (h : SqL K H a (ns.map V.int)) (hn : ns.length ≤ 1000)
    (q : ∀ (H' : Hp) (l : Addr) (rs : List Addr), Same H H' → H l = none → H' l = some (.lst (rs.map V.ref)) → rs.length = (ns.length + 1) / 2 → (∀ i r, rs[i]? = some r → H' r = some (.lst (((ns.drop (i * 2)).take 2).map V.int))) → Q (.ref l) H') : sp_pieces K args_ H Q E :=
  ⟨a, ns, 2, (ns.length + 1) / 2, ev, h, rgc2 (by omega), by omega, by decide, q⟩
local macro_rules | `(tactic| walk_at "ca1") => `(tactic| with_reducible (refine' Sg.i_pieces2 ?ev ?h ?hn ?_; (case ev => (with_unfolding_all rfl)); (case h => (with_unfolding_all walk_at "pr")); (case hn => omega); intros))
def sp_read_pairs (K : PySem.W.Frag) : Sp := fun args_ H Q _ => ∃ (a : Addr) (os : List Int), args_ = [.ref a] ∧ SqL K H a (os.map V.int) ∧ os.length ≤ 1000 ∧ ∀ (H' : Hp) (t : Addr), Same H H' → H t = none → H' t = some (.tup ((piecesV os).map V.int)) → Q (.ref t) H'
theorem i_read_pairs {K : PySem.W.Frag} {args_ : List V} {H : Hp} {Q : V → Hp → Prop} {E : XK} {a : Addr} {os : List Int} (ev : args_ = [.ref a]) (h : SqL K H a (os.map V.int)) (hl : os.length ≤ 1000) (q : ∀ (H' : Hp) (t : Addr), Same H H' → H t = none → H' t = some (.tup ((piecesV os).map V.int)) → Q (.ref t) H') : sp_read_pairs K args_ H Q E := ⟨a, os, ev, h, hl, q⟩
local macro_rules | `(tactic| walk_at "ca1") => `(tactic| with_reducible (refine' Sg.i_read_pairs ?ev ?h ?hl ?_; (case ev => (with_unfolding_all rfl)); (case h => (with_unfolding_all walk_at "pr")); (case hl => (with_unfolding_all walk_at "pr")); intros))

theorem ok_read_pairs (T : Txt K mg) : FnOk P w K mg base CX0 2 T.a_read_pairs T.fd_read_pairs ["octets"] (sp_read_pairs K) := by
  refine T.F_read_pairs.ok sc_read_pairs (fun vs H Q E h => ?_) (fun cdv A outer s H vs Q E hr h => ?_)
  · obtain ⟨a, os, rfl, _⟩ := h
    rfl
  · refine ⟨_, (pss_one (ps_ret (pe_callTy c_tuple (by rfl) T.n_tuple (by decide +kernel) (pa_cons (pe_lc (own := [("pair", 1)]) (g := gName 1) (tt := tYes) rfl sc_read_pairs.nd (pi_list (pe_call (ok_pieces T) (hr.mono (by decide)) rfl T.m_pieces T.F_pieces.kp T.b_pieces .nil pass0 (pa_cons (pv 0) (pa_cons pe_int pa_nil)))) (blkOk_by (own := [("pair", 1)]) (N := n_read_pairs) (sc := defScope s_read_pairs) (by decide +kernel)) (fun _ _ _ _ _ => pg_name (i := 1) sc_read_pairs.nd rfl (Or.inl rfl)) (fun _ _ _ _ _ => pts_nil) (fun _ _ _ _ _ => (pe_call (ok_number_of T) (hr.mono (by decide)) rfl T.m_number_of T.F_number_of.kp T.b_number_of .nil pass0 (pa_cons (pv 1) pa_nil)))) pa_nil)))), ?_⟩
    try dsimp only [cxOf, Cx.nox, Cx.wish]
    obtain ⟨a, os, rfl, h, hl, q⟩ := h
    walk_at "go"
    rename_i H1 l1 rs s1 n1 g1 hr1 hr2
    refine r_lcRV (zs := piecesV os) (.of g1) (by rw [piecesV_len]; omega) (by omega) rfl ?_ ?_
    · intro i r z H' hr hz s2 R hR
      have g2 := s2 _ _ (hr2 i r hr)
      have hil := (List.getElem?_eq_some_iff.mp hr).1
      unfold piecesV at hz
      rw [List.getElem?_map, List.getElem?_range (by omega)] at hz
      cases hz
      walk_at "go"
      exact hR _ (Same.refl _)
    · intro H' l s2 n2 g2
      walk_at "go"
      rename_i g
      exact q _ _ (by walk_at "sm") (by walk_at "nn") g
def sp_read_listed (K : PySem.W.Frag) (C : Addr) : Sp := fun args_ H Q _ => ∃ (p a : Addr) (L : Lay) (os : List Int), args_ = [.ref p, .ref a] ∧ LayAt C L H p ∧ LayS L ∧ SqL K H a (os.map V.int) ∧ (os.length : Int) = L.size ∧ (∀ x ∈ os, 0 ≤ x ∧ x < 256) ∧ ((cntO os ≤ L.pay → ∀ (H' : Hp) (t : Addr), Same H H' → H t = none → H' t = some (.tup ((listedO os).map V.int)) → Q (.ref t) H')) ∧ (¬ cntO os ≤ L.pay → ∀ H', Same H H' → Q .non H')
theorem i_read_listed {K : PySem.W.Frag} {C : Addr} {args_ : List V} {H : Hp} {Q : V → Hp → Prop} {E : XK} {p a : Addr} {L : Lay} {os : List Int} (ev : args_ = [.ref p, .ref a]) (hL : LayAt C L H p) (hS : LayS L) (h : SqL K H a (os.map V.int)) (hl : (os.length : Int) = L.size) (hb : (∀ x ∈ os, 0 ≤ x ∧ x < 256)) (q1 : (cntO os ≤ L.pay → ∀ (H' : Hp) (t : Addr), Same H H' → H t = none → H' t = some (.tup ((listedO os).map V.int)) → Q (.ref t) H')) (q2 : (¬ cntO os ≤ L.pay → ∀ H', Same H H' → Q .non H')) : sp_read_listed K C args_ H Q E := ⟨p, a, L, os, ev, hL, hS, h, hl, hb, q1, q2⟩
local macro_rules | `(tactic| walk_at "ca1") => `(tactic| with_reducible (refine' Sg.i_read_listed ?ev ?hL ?hS ?h ?hl ?hb ?q1 ?q2; (case ev => (with_unfolding_all rfl)); (case hL => (with_unfolding_all walk_at "pr")); (case hS => (with_unfolding_all walk_at "pr")); (case h => (with_unfolding_all walk_at "pr")); (case hl => (with_unfolding_all walk_at "pr")); (case hb => (with_unfolding_all walk_at "pr"))))

theorem ok_read_listed (T : Txt K mg) : FnOk P w K mg base CX0 3 T.a_read_listed T.fd_read_listed ["layout", "octets"] (sp_read_listed K T.A_Layout) := by
  refine T.F_read_listed.ok sc_read_listed (fun vs H Q E h => ?_) (fun cdv A outer s H vs Q E hr h => ?_)
  · obtain ⟨p, a, L, os, rfl, _⟩ := h
    rfl
  · refine ⟨_, (pss_cons (ps_set (i := 2) sc_read_listed.nd rfl (Or.inl rfl) (pe_call (ok_number_of T) (hr.mono (by decide)) rfl T.m_number_of T.F_number_of.kp T.b_number_of .nil pass0 (pa_cons (pe_slice sl_list (pv 1) (po_some pe_int) (po_some pe_int)) pa_nil)))
       (pss_cons (ps_if (pt_cmpR op_gt (pv 2) (pe_fld (pv 0) rfl) (nomark _))
       (pss_one (ps_ret pe_non))
       pss_nil)
       (pss_one (ps_ret (pe_call (ok_read_pairs T) (hr.mono (by decide)) rfl T.m_read_pairs T.F_read_pairs.kp T.b_read_pairs .nil pass0 (pa_cons (pe_slice sl_list (pv 1) (po_some (pe_glob rfl T.c_SUMMARY_HEAD T.r_SUMMARY_HEAD)) (po_some (pe_op op_add (pe_glob rfl T.c_SUMMARY_HEAD T.r_SUMMARY_HEAD) (pe_op op_mul pe_int (pv 2))))) pa_nil)))))), ?_⟩
    try dsimp only [cxOf, Cx.nox, Cx.wish]
    obtain ⟨p, a, L, os, rfl, hL, hS, h, hl, hb, q1, q2⟩ := h
    have cl_Layout := T.cl_Layout
    have na_Layout_payload := T.na_Layout_payload
    obtain ⟨dx, fs, hp, F⟩ := id hL
    have lk1 := F.pay
    have z1 := hS.c.z1
    have c0 : 0 ≤ cntO os := (val2_lt _ (by rw [List.length_take]; omega) (fun x hx => hb x (List.mem_of_mem_drop (List.mem_of_mem_take hx)))).1
    walk_at "go"
    have ec : val (List.take (Int.toNat 7 - Int.toNat 5) (List.drop (Int.toNat 5) os)) = cntO os := rfl
    rw [ec]
    refine to_ite (fun hc => ?_) (fun hc => ?_)
    · have hc' := of_decide_eq_true hc
      walk_at "go"
      exact q2 (by omega) _ (by walk_at "sm")
    · have hc' : ¬ L.pay < cntO os := of_decide_eq_false hc
      have hl2 : (List.take ((16 + 2 * cntO os).toNat - Int.toNat 16) (List.drop (Int.toNat 16) os)).length ≤ 1000 := by
        rw [List.length_take, List.length_drop]
        omega
      walk_at "go"
      rename_i g
      refine q1 (by omega) _ _ (by walk_at "sm") (by walk_at "nn") (g.trans ?_)
      unfold listedO
      rw [show (16 + 2 * cntO os).toNat - Int.toNat 16 = 2 * (cntO os).toNat by have : Int.toNat 16 = 16 := rfl; omega]
      rfl
def sp_read_bits (K : PySem.W.Frag) (C : Addr) : Sp := fun args_ H Q _ => ∃ (p a : Addr) (L : Lay) (os : List Int), args_ = [.ref p, .ref a] ∧ LayAt C L H p ∧ LayS L ∧ SqL K H a (os.map V.int) ∧ L.last.toNat ≤ 8 * os.length ∧ (∀ x ∈ os, 0 ≤ x ∧ x < 256) ∧ ∀ (H' : Hp) (t : Addr), Same H H' → H t = none → H' t = some (.tup ((idsOf ((List.range L.last.toNat).filter (bitAt os))).map V.int)) → Q (.ref t) H'
theorem i_read_bits {K : PySem.W.Frag} {C : Addr} {args_ : List V} {H : Hp} {Q : V → Hp → Prop} {E : XK} {p a : Addr} {L : Lay} {os : List Int} (ev : args_ = [.ref p, .ref a]) (hL : LayAt C L H p) (hS : LayS L) (h : SqL K H a (os.map V.int)) (hl : L.last.toNat ≤ 8 * os.length) (h0 : (∀ x ∈ os, 0 ≤ x ∧ x < 256)) (q : ∀ (H' : Hp) (t : Addr), Same H H' → H t = none → H' t = some (.tup ((idsOf ((List.range L.last.toNat).filter (bitAt os))).map V.int)) → Q (.ref t) H') : sp_read_bits K C args_ H Q E := ⟨p, a, L, os, ev, hL, hS, h, hl, h0, q⟩
local macro_rules | `(tactic| walk_at "ca1") => `(tactic| with_reducible (refine' Sg.i_read_bits ?ev ?hL ?hS ?h ?hl ?h0 ?_; (case ev => (with_unfolding_all rfl)); (case hL => (with_unfolding_all walk_at "pr")); (case hS => (with_unfolding_all walk_at "pr")); (case h => (with_unfolding_all walk_at "pr")); (case hl => (with_unfolding_all walk_at "pr")); (case h0 => (with_unfolding_all walk_at "pr")); intros))

theorem ok_read_bits (T : Txt K mg) : FnOk P w K mg base CX0 1 T.a_read_bits T.fd_read_bits ["layout", "octets"] (sp_read_bits K T.A_Layout) := by
  refine T.F_read_bits.ok sc_read_bits (fun vs H Q E h => ?_) (fun cdv A outer s H vs Q E hr h => ?_)
  · obtain ⟨p, a, L, os, rfl, _⟩ := h
    rfl
  · refine ⟨_, (pss_one (ps_ret (pe_callTy c_tuple (by rfl) T.n_tuple (by decide +kernel) (pa_cons (pe_lc (own := [("place", 2)]) (g := gName 2)  rfl sc_read_bits.nd (pi_range1 rfl T.n_range (pa_cons (pe_fld (pv 0) rfl) pa_nil)) (blkOk_by (own := [("place", 2)]) (N := n_read_bits) (sc := defScope s_read_bits) (by decide +kernel)) (fun _ _ _ _ _ => pg_name (i := 2) sc_read_bits.nd rfl (Or.inl rfl)) (fun _ _ _ _ _ => pts_one (pt_cmpR op_eq (pe_op op_andM (pe_op op_shr (pe_ix (ix_listK K rfl) (pv 1) (pe_op op_fdiv (pv 2) pe_int) (fun _ _ => rfl)) (pe_op op_mod (pv 2) pe_int)) pe_int) pe_int (nomark _))) (fun _ _ _ _ _ => (pe_op op_add (pv 2) pe_int))) pa_nil)))), ?_⟩
    try dsimp only [cxOf, Cx.nox, Cx.wish]
    obtain ⟨p, a, L, os, rfl, hL, hS, h, hl, h0, q⟩ := h
    have cl_Layout := T.cl_Layout
    have na_Layout_last_id := T.na_Layout_last_id
    obtain ⟨dx, fs, hp, F⟩ := id hL
    have lk1 := F.last
    have l1 := hS.c.l1
    walk_at "go"
    have l0 := hS.c.l0
    refine r_kR1 (by omega) (by omega) ?_
    refine r_lcFX (bitAt os) (fun i => (i : Int) + 1) (by omega) rfl ?_ ?_ ?_
    · intro i H' hi s R hR
      have h' := s.seq h
      walk_at "go"
      rw [Int.zero_add]
      have tn : ((i : Int) / 8).toNat = i / 8 := by omega
      refine r_ixl h' (at_ints (by omega) (by omega)) ?_
      walk_at "go"
      rename_i y hy y0 y1
      refine ⟨_, 1, rfl, by decide, ?_⟩
      walk_at "go"
      have e2 : y.toNat = i % 8 := by omega
      rw [tn, e2]
      exact hR
    · intro i H' hi s R hR
      walk_at "go"
      rw [Int.zero_add]
      exact hR
    · intro H' l s n g
      walk_at "go"
      rename_i g
      exact q _ _ (by walk_at "sm") (by walk_at "nn") g

def sp_read_commit (K : PySem.W.Frag) (C : Addr) : Sp := fun args_ H Q _ => ∃ (p a : Addr) (L : Lay) (os : List Int), args_ = [.ref p, .ref a] ∧ LayAt C L H p ∧ LayS L ∧ SqL K H a (os.map V.int) ∧ (os.length : Int) = L.size ∧ (∀ x ∈ os, 0 ≤ x ∧ x < 256) ∧ ((∀ b, readBB L 1 os = some b → ∀ (H' : Hp) (t : Addr), Same H H' → BodyAt K H' t b → Q (.ref t) H')) ∧ (readBB L 1 os = none → ∀ H', Same H H' → Q .non H')
theorem i_read_commit {K : PySem.W.Frag} {C : Addr} {args_ : List V} {H : Hp} {Q : V → Hp → Prop} {E : XK} {p a : Addr} {L : Lay} {os : List Int} (ev : args_ = [.ref p, .ref a]) (hL : LayAt C L H p) (hS : LayS L) (h : SqL K H a (os.map V.int)) (hl : (os.length : Int) = L.size) (hb : (∀ x ∈ os, 0 ≤ x ∧ x < 256)) (q1 : (∀ b, readBB L 1 os = some b → ∀ (H' : Hp) (t : Addr), Same H H' → BodyAt K H' t b → Q (.ref t) H')) (q2 : (readBB L 1 os = none → ∀ H', Same H H' → Q .non H')) : sp_read_commit K C args_ H Q E := ⟨p, a, L, os, ev, hL, hS, h, hl, hb, q1, q2⟩
local macro_rules | `(tactic| walk_at "ca1") => `(tactic| with_reducible (refine' Sg.i_read_commit ?ev ?hL ?hS ?h ?hl ?hb ?q1 ?q2; (case ev => (with_unfolding_all rfl)); (case hL => (with_unfolding_all walk_at "pr")); (case hS => (with_unfolding_all walk_at "pr")); (case h => (with_unfolding_all walk_at "pr")); (case hl => (with_unfolding_all walk_at "pr")); (case hb => (with_unfolding_all walk_at "pr"))))

theorem ok_read_commit (T : Txt K mg) : FnOk P w K mg base CX0 4 T.a_read_commit T.fd_read_commit ["layout", "octets"] (sp_read_commit K T.A_Layout) := by
  refine T.F_read_commit.ok sc_read_commit (fun vs H Q E h => ?_) (fun cdv A outer s H vs Q E hr h => ?_)
  · obtain ⟨p, a, L, os, rfl, _⟩ := h
    rfl
  · refine ⟨_, (pss_cons (ps_set (i := 2) sc_read_commit.nd rfl (Or.inl rfl) (pe_call (ok_read_listed T) (hr.mono (by decide)) rfl T.m_read_listed T.F_read_listed.kp T.b_read_listed .nil pass0 (pa_cons (pv 0) (pa_cons (pv 1) pa_nil))))
       (pss_cons (ps_set (i := 3) sc_read_commit.nd rfl (Or.inl rfl) (pe_ix ix_list (pv 1) pe_int (fun _ _ => rfl)))
       (C8.pss_cut (ps_if (PW.pt (pw_or (pt_cmp (pc_isN (pv 2)) rfl) (pw_or1 (pt_cmpR op_gt (pv 3) (pe_glob rfl T.c_MOST_ACTION T.r_MOST_ACTION) (nomark _)))))
       (pss_one (ps_ret pe_non))
       pss_nil)
       (pss_one (ps_ret (pe_tup (pa_cons (pv 2) (pa_cons (pe_call (ok_read_bits T) (hr.mono (by decide)) rfl T.m_read_bits T.F_read_bits.kp T.b_read_bits .nil pass0 (pa_cons (pv 0) (pa_cons (pe_slice sl_list (pv 1) (po_some (pe_op op_add (pe_glob rfl T.c_SUMMARY_HEAD T.r_SUMMARY_HEAD) (pe_op op_mul pe_int (pe_fld (pv 0) rfl)))) po_none) pa_nil))) (pa_cons (pv 3) pa_nil))))))))), ?_⟩
    try dsimp only [cxOf, Cx.nox, Cx.wish]
    obtain ⟨p, a, L, os, rfl, hL, hS, h, hl, hb, q1, q2⟩ := h
    have cl_Layout := T.cl_Layout
    have na_Layout_payload := T.na_Layout_payload
    obtain ⟨dx, fs, hp, F⟩ := id hL
    have lk1 := F.pay
    have z1 := hS.c.z1
    have z0 := hS.c.z0
    have p0 := hS.c.pay
    have b0 := hS.c.b0
    have sf := hS.sf
    have l0 := hS.c.l0
    have e7 : (os.map V.int)[7]? = some (.int (os.getD 7 0)) := by
      rw [List.getElem?_map, List.getD_eq_getElem?_getD, List.getElem?_eq_getElem (by omega)]
      rfl
    have rb : readBB L 1 os = (if cntO os ≤ L.pay ∧ os.getD 7 0 ≤ 6 then some (.cm (listedO os) ((List.range L.last.toNat).filter (bitAt (os.drop (16 + 2 * L.pay).toNat))) (os.getD 7 0)) else none) := rfl
    walk_at "go"
    case q2 =>
      intro hc H1 s1
      have h1 := s1.seq h
      walk_at "go"
      refine r_ixl h1 (atI_nat (j := 7) e7) ?_
      walk_at "go"
      refine r_cut (fun _ _ => False) ?_ (fun _ _ z => z.elim)
      walk_at "go"
      exact q2 (by rw [rb, if_neg (fun z => hc z.1)]) _ (by walk_at "sm")
    case q1 =>
      intro hc H1 t s1 n1 g1
      have h1 := s1.seq h
      walk_at "go"
      refine r_ixl h1 (atI_nat (j := 7) e7) ?_
      walk_at "go"
      by_cases h6 : 6 < os.getD 7 0
      · refine r_cut (fun _ _ => False) ?_ (fun _ _ z => z.elim)
        walk_at "go"
        exact q2 (by rw [rb, if_neg (fun z => by have := z.2; omega)]) _ (by walk_at "sm")
      · have hlb : L.last.toNat ≤ 8 * (List.drop (16 + 2 * L.pay).toNat os).length := by
          rw [List.length_drop]
          omega
        have hbb : ∀ x ∈ List.drop (16 + 2 * L.pay).toNat os, 0 ≤ x ∧ x < 256 := fun x hx => hb x (List.mem_of_mem_drop hx)
        refine r_cutS ?_ ?_
        · walk_at "go"
          exact ⟨rfl, rfl⟩
        walk_at "go"
        rename_i H2 p2 s2 n2 g2 H3 t3 s3 n3 g3 p4 n4 H4 s4 g4
        refine q1 (.cm (listedO os) ((List.range L.last.toNat).filter (bitAt (os.drop (16 + 2 * L.pay).toNat))) (os.getD 7 0)) (by rw [rb, if_pos ⟨hc, by omega⟩]) _ _ (by walk_at "sm") ⟨t, t3, .of g4, .of (s4 _ _ (s3 _ _ (s2 _ _ g1))), .of (s4 _ _ g3)⟩
def sp_read_body (K : PySem.W.Frag) (C : Addr) : Sp := fun args_ H Q _ => ∃ (p a : Addr) (L : Lay) (k : Int) (os : List Int), args_ = [.ref p, .int k, .ref a] ∧ LayAt C L H p ∧ LayS L ∧ SqL K H a (os.map V.int) ∧ (os.length : Int) = L.size ∧ (∀ x ∈ os, 0 ≤ x ∧ x < 256) ∧ ((∀ b, readBB L k os = some b → ∀ (H' : Hp) (t : Addr), Same H H' → BodyAt K H' t b → Q (.ref t) H')) ∧ (readBB L k os = none → ∀ H', Same H H' → Q .non H')
theorem i_read_body {K : PySem.W.Frag} {C : Addr} {args_ : List V} {H : Hp} {Q : V → Hp → Prop} {E : XK} {p a : Addr} {L : Lay} {k : Int} {os : List Int} (ev : args_ = [.ref p, .int k, .ref a]) (hL : LayAt C L H p) (hS : LayS L) (h : SqL K H a (os.map V.int)) (hl : (os.length : Int) = L.size) (hb : (∀ x ∈ os, 0 ≤ x ∧ x < 256)) (q1 : (∀ b, readBB L k os = some b → ∀ (H' : Hp) (t : Addr), Same H H' → BodyAt K H' t b → Q (.ref t) H')) (q2 : (readBB L k os = none → ∀ H', Same H H' → Q .non H')) : sp_read_body K C args_ H Q E := ⟨p, a, L, k, os, ev, hL, hS, h, hl, hb, q1, q2⟩
local macro_rules | `(tactic| walk_at "ca1") => `(tactic| with_reducible (refine' Sg.i_read_body ?ev ?hL ?hS ?h ?hl ?hb ?q1 ?q2; (case ev => (with_unfolding_all rfl)); (case hL => (with_unfolding_all walk_at "pr")); (case hS => (with_unfolding_all walk_at "pr")); (case h => (with_unfolding_all walk_at "pr")); (case hl => (with_unfolding_all walk_at "pr")); (case hb => (with_unfolding_all walk_at "pr"))))

theorem ok_read_body (T : Txt K mg) : FnOk P w K mg base CX0 5 T.a_read_body T.fd_read_body ["layout", "kind", "octets"] (sp_read_body K T.A_Layout) := by
  refine T.F_read_body.ok sc_read_body (fun vs H Q E h => ?_) (fun cdv A outer s H vs Q E hr h => ?_)
  · obtain ⟨p, a, L, k, os, rfl, _⟩ := h
    rfl
  · refine ⟨_, (pss_cons (ps_if (pt_cmpR op_eq (pv 1) (pe_glob rfl T.c_COMMIT T.r_COMMIT) (nomark _))
       (pss_one (ps_ret (pe_call (ok_read_commit T) (hr.mono (by decide)) rfl T.m_read_commit T.F_read_commit.kp T.b_read_commit .nil pass0 (pa_cons (pv 0) (pa_cons (pv 2) pa_nil)))))
       pss_nil)
       (pss_cons (ps_if (pt_cmpR op_eq (pv 1) (pe_glob rfl T.c_MOVE T.r_MOVE) (nomark _))
       (pss_one (ps_ret (pe_call (ok_read_listed T) (hr.mono (by decide)) rfl T.m_read_listed T.F_read_listed.kp T.b_read_listed .nil pass0 (pa_cons (pv 0) (pa_cons (pv 2) pa_nil)))))
       pss_nil)
       (pss_cons (ps_if (pt_cmpR op_eq (pv 1) (pe_glob rfl T.c_DATA T.r_DATA) (nomark _))
       (pss_one (ps_ret (pe_callTy c_tuple (by rfl) T.n_tuple (by decide +kernel) (pa_cons (pv 2) pa_nil))))
       pss_nil)
       (pss_cons (ps_if (pt_cmpR op_in_seq (pv 1) (pe_tup (pa_cons (pe_glob rfl T.c_NODE T.r_NODE) (pa_cons (pe_glob rfl T.c_PART T.r_PART) pa_nil))) (by with_unfolding_all rfl))
       (pss_one (ps_ret (pe_call (ok_read_pairs T) (hr.mono (by decide)) rfl T.m_read_pairs T.F_read_pairs.kp T.b_read_pairs .nil pass0 (pa_cons (pv 2) pa_nil))))
       pss_nil)
       (pss_one (ps_ret pe_non)))))), ?_⟩
    try dsimp only [cxOf, Cx.nox, Cx.wish]
    obtain ⟨p, a, L, k, os, rfl, hL, hS, h, hl, hb, q1, q2⟩ := h
    obtain ⟨dx, fs, hp, F⟩ := id hL
    have z1 := hS.c.z1
    by_cases k1 : k = 1
    · subst k1
      walk_at "go"
      case q1 =>
        intro b hb' H1 t s1 ht
        walk_at "go"
        exact q1 _ hb' _ _ s1 ht
      case q2 =>
        intro hn H1 s1
        walk_at "go"
        exact q2 hn _ s1
    by_cases k2 : k = 2
    · have rb : readBB L k os = (if cntO os ≤ L.pay then some (.ot 2 (listedO os)) else none) := by subst k2; rfl
      walk_at "go"
      case q1 =>
        intro hc H1 t s1 n1 g1
        walk_at "go"
        exact q1 (.ot 2 (listedO os)) (by rw [rb, if_pos hc]) _ _ s1 (show SqT K H1 t _ from .of g1)
      case q2 =>
        intro hc H1 s1
        walk_at "go"
        exact q2 (by rw [rb, if_neg hc]) _ s1
    by_cases k3 : k = 3
    · have rb : readBB L k os = some (.ot 3 os) := by subst k3; rfl
      walk_at "go"
      rename_i t n1 H1 s1 g1
      exact q1 _ rb _ _ s1 (show SqT K H1 t _ from .of g1)
    have rb : readBB L k os = (if k = 4 ∨ k = 5 then some (.ot k (piecesV os)) else none) := by
      unfold readBB
      rw [if_neg k1, if_neg k2, if_neg k3]
    walk_at "go"
    rename_i p1 n1 H1 s1 g1
    rw [show inV (V.int k) [V.int 4, V.int 5] = decide (k = 4 ∨ k = 5) from by
      rw [show [V.int 4, V.int 5] = ([4, 5] : List Int).map V.int from rfl, inV_ints]
      simp]
    show if decide (k = 4 ∨ k = 5) = true then _ else _
    have hl1 : os.length ≤ 1000 := by omega
    refine to_ite (fun hc => ?_) (fun hc => ?_)
    · walk_at "go"
      rename_i H2 t2 s2 n2 g2
      exact q1 (.ot k (piecesV os)) (by rw [rb, if_pos (of_decide_eq_true hc)]) _ _ (s1.trans s2) (show SqT K H2 t2 _ from .of g2)
    · walk_at "go"
      exact q2 (by rw [rb, if_neg (of_decide_eq_false hc)]) _ s1
theorem val_lt {l : List Int} (h : ∀ x ∈ l, 0 ≤ x ∧ x < 256) : 0 ≤ val l ∧ val l < 256 ^ l.length := by
  refine ⟨val_nn l h, ?_⟩
  have e := val_octN l.length (val l)
  rw [octN_val l h] at e
  rw [e]
  exact Int.emod_lt_of_pos _ (Int.pow_pos (by decide))
theorem r_neII {K : PySem.W.Frag} {H : Hp} {a b : Addr} {ns ms : List Int} {Q : V → Hp → Prop} (ha : SqL K H a (ns.map V.int)) (hb : SqL K H b (ms.map V.int)) (q : Q (.bl (!decide (ns = ms))) H) : rNeD K (.ref a) (.ref b) H Q := by
  refine r_ned (Dp.ints ha) (Dp.ints hb) (Fl.intlS ns) (Fl.intlS ms) ?_
  rw [eqv_ints]
  exact q
def sp_read_block (K : PySem.W.Frag) (C : Addr) : Sp := fun args_ H Q _ => ∃ (p a : Addr) (L : Lay) (os : List Int), args_ = [.ref p, .ref a] ∧ LayAt C L H p ∧ LayS L ∧ SqL K H a (os.map V.int) ∧ (os.length : Int) = 16 + L.size ∧ (∀ x ∈ os, 0 ≤ x ∧ x < 256) ∧ ∀ (H' : Hp) (v : V), Same H H' → BlkAt K H' v (readB L os) → (∀ m, readB L os = some m → GoodM L m) → Q v H'
theorem i_read_block {K : PySem.W.Frag} {C : Addr} {args_ : List V} {H : Hp} {Q : V → Hp → Prop} {E : XK} {p a : Addr} {L : Lay} {os : List Int} (ev : args_ = [.ref p, .ref a]) (hL : LayAt C L H p) (hS : LayS L) (h : SqL K H a (os.map V.int)) (hl : (os.length : Int) = 16 + L.size) (hb : (∀ x ∈ os, 0 ≤ x ∧ x < 256)) (q : ∀ (H' : Hp) (v : V), Same H H' → BlkAt K H' v (readB L os) → (∀ m, readB L os = some m → GoodM L m) → Q v H') : sp_read_block K C args_ H Q E := ⟨p, a, L, os, ev, hL, hS, h, hl, hb, q⟩
local macro_rules | `(tactic| walk_at "ca1") => `(tactic| with_reducible (refine' Sg.i_read_block ?ev ?hL ?hS ?h ?hl ?hb ?_; (case ev => (with_unfolding_all rfl)); (case hL => (with_unfolding_all walk_at "pr")); (case hS => (with_unfolding_all walk_at "pr")); (case h => (with_unfolding_all walk_at "pr")); (case hl => (with_unfolding_all walk_at "pr")); (case hb => (with_unfolding_all walk_at "pr")); intros))

theorem ok_read_block (T : Txt K mg) : FnOk P w K mg base CX0 6 T.a_read_block T.fd_read_block ["layout", "octets"] (sp_read_block K T.A_Layout) := by
  refine T.F_read_block.ok sc_read_block (fun vs H Q E h => ?_) (fun cdv A outer s H vs Q E hr h => ?_)
  · obtain ⟨p, a, L, os, rfl, _⟩ := h
    rfl
  · refine ⟨_, (pss_cons (ps_set (i := 2) sc_read_block.nd rfl (Or.inl rfl) (pe_call (ok_read_body T) (hr.mono (by decide)) rfl T.m_read_body T.F_read_body.kp T.b_read_body .nil pass0 (pa_cons (pv 0) (pa_cons (pe_ix ix_list (pv 1) pe_int (fun _ _ => rfl)) (pa_cons (pe_slice sl_list (pv 1) (po_some (pe_glob rfl T.c_SPARE_OCTETS T.r_SPARE_OCTETS)) po_none) pa_nil)))))
       (pss_cons (ps_if (pt_cmp (pc_isN (pv 2)) rfl)
       (pss_one (ps_ret pe_non))
       pss_nil)
       (pss_cons (ps_set (i := 3) sc_read_block.nd rfl (Or.inl rfl) (pe_tup (pa_cons (pe_ix ix_list (pv 1) pe_int (fun _ _ => rfl)) (pa_cons (pe_call (ok_number_of T) (hr.mono (by decide)) rfl T.m_number_of T.F_number_of.kp T.b_number_of .nil pass0 (pa_cons (pe_slice sl_list (pv 1) (po_some pe_int) (po_some pe_int)) pa_nil)) (pa_cons (pe_call (ok_number_of T) (hr.mono (by decide)) rfl T.m_number_of T.F_number_of.kp T.b_number_of .nil pass0 (pa_cons (pe_slice sl_list (pv 1) (po_some pe_int) (po_some pe_int)) pa_nil)) (pa_cons (pv 2) pa_nil))))))
       (pss_cons (ps_if (pt_cmpR (op_neD hr.units) (pe_call (ok_block_octets T) (hr.mono (by decide)) rfl T.m_block_octets T.F_block_octets.kp T.b_block_octets .nil pass0 (pa_cons (pv 0) (pa_cons (pv 3) pa_nil))) (pe_callTy c_list (by rfl) T.n_list (by decide +kernel) (pa_cons (pv 1) pa_nil)) (nomark _))
       (pss_one (ps_ret pe_non))
       pss_nil)
       (pss_one (ps_ret (pv 3))))))), ?_⟩
    try dsimp only [cxOf, Cx.nox, Cx.wish]
    obtain ⟨p, a, L, os, rfl, hL, hS, h, hl, hb, q⟩ := h
    obtain ⟨dx, fs, hp, F⟩ := id hL
    have z1 := hS.c.z1
    have z0 := hS.c.z0
    have e0 : (os.map V.int)[0]? = some (.int (os.getD 0 0)) := by
      rw [List.getElem?_map, List.getD_eq_getElem?_getD, List.getElem?_eq_getElem (by omega)]
      rfl
    have hl2 : ((List.drop (Int.toNat 16) os).length : Int) = L.size := by
      rw [List.length_drop]
      have : Int.toNat 16 = 16 := rfl
      omega
    have hb2 : ∀ x ∈ List.drop (Int.toNat 16) os, 0 ≤ x ∧ x < 256 := fun x hx => hb x (List.mem_of_mem_drop hx)
    walk_at "go"
    refine r_ixl h (atI_nat (j := 0) e0) ?_
    walk_at "go"
    case q2 =>
      intro hn H2 s2
      walk_at "go"
      have er : readB L os = none := by
        unfold readB
        rw [show List.drop 16 os = List.drop (Int.toNat 16) os from rfl, hn]
      exact q _ _ (by walk_at "sm") (by rw [er]; exact rfl) (fun m hm => by rw [er] at hm; cases hm)
    case q1 =>
      intro b hb' H2 t s2 ht
      have hg := readBB_good hS hl2 hb2 hb'
      have er : readB L os = if blkO L (some (rawB os b)) = os then some (rawB os b) else none := by
        unfold readB
        rw [show List.drop 16 os = List.drop (Int.toNat 16) os from rfl, hb']
      have h2 := s2.seq (Same.seq (by assumption) h)
      walk_at "go"
      refine r_ixl h2 (atI_nat (j := 0) e0) ?_
      walk_at "go"
      rename_i H0 p0 s0 n0 g0 H3 p3 s3 n3 g3 H4 p4 s4 n4 g4 p5 n5 H5 s5 g5
      have g5' : SqT K H5 p5 [.int (kindB b), .int (rawB os b).seq, .int (rawB os b).rank, .ref t] := by
        rw [hg.2]
        exact .of g5
      have hB : BlkAt K H5 (.ref p5) (some (rawB os b)) := ⟨p5, t, rfl, g5', (ht.mono s3).mono (s4.trans s5)⟩
      have hG : GoodM L (rawB os b) := by
        have a6 : (List.take 6 (List.drop 1 os)).length = 6 := by rw [List.length_take, List.length_drop]; omega
        have a2 : (List.take 2 (List.drop 7 os)).length = 2 := by rw [List.length_take, List.length_drop]; omega
        have b6 := val_lt (l := List.take 6 (List.drop 1 os)) fun x hx => hb x (List.mem_of_mem_drop (List.mem_of_mem_take hx))
        have b2 := val_lt (l := List.take 2 (List.drop 7 os)) fun x hx => hb x (List.mem_of_mem_drop (List.mem_of_mem_take hx))
        rw [a6] at b6
        rw [a2] at b2
        exact ⟨b6.1, b6.2, b2.1, b2.2, hg.1⟩
      clear g0 g3 g4 g5 n0 n3 n4 n5
      have S5 : Same H H5 := s0.trans (s2.trans (s3.trans (s4.trans s5)))
      have hL5 : LayAt T.A_Layout L H5 p := hL.mono S5
      have h5 : SqL K H5 a (os.map V.int) := S5.seq h
      refine i_block_octets rfl hL5 hS hB (fun m hm => by cases hm; exact hG) ?_
      intro H6 l6 s6 n6 g6
      have h6 := s6.seq h5
      walk_at "go"
      rename_i l7 n7 H7 s7 g7
      refine r_neII (.of (s7 _ _ g6)) (.of g7) ?_
      by_cases c : blkO L (some (rawB os b)) = os
      · rw [decide_eq_true c]
        rw [if_pos c] at er
        walk_at "go"
        exact q _ _ (S5.trans (s6.trans s7)) (by rw [er]; exact (hB.mono s6).mono s7) (fun m hm => by rw [er] at hm; cases hm; exact hG)
      · rw [decide_eq_false c]
        rw [if_neg c] at er
        walk_at "go"
        exact q _ _ (S5.trans (s6.trans s7)) (by rw [er]; exact rfl) (fun m hm => by rw [er] at hm; cases hm)
def sp_is_damaged (K : PySem.W.Frag) (C : Addr) : Sp := fun args_ H Q _ => ∃ (p a : Addr) (L : Lay) (os : List Int), args_ = [.ref p, .ref a] ∧ LayAt C L H p ∧ LayS L ∧ SqL K H a (os.map V.int) ∧ (os.length : Int) = 16 + L.size ∧ (∀ x ∈ os, 0 ≤ x ∧ x < 256) ∧ ∀ (H' : Hp), Same H H' → Q (.bl (os.any (· != 0) && (readB L os).isNone)) H'
theorem i_is_damaged {K : PySem.W.Frag} {C : Addr} {args_ : List V} {H : Hp} {Q : V → Hp → Prop} {E : XK} {p a : Addr} {L : Lay} {os : List Int} (ev : args_ = [.ref p, .ref a]) (hL : LayAt C L H p) (hS : LayS L) (h : SqL K H a (os.map V.int)) (hl : (os.length : Int) = 16 + L.size) (hb : (∀ x ∈ os, 0 ≤ x ∧ x < 256)) (q : ∀ (H' : Hp), Same H H' → Q (.bl (os.any (· != 0) && (readB L os).isNone)) H') : sp_is_damaged K C args_ H Q E := ⟨p, a, L, os, ev, hL, hS, h, hl, hb, q⟩
local macro_rules | `(tactic| walk_at "ca1") => `(tactic| with_reducible (refine' Sg.i_is_damaged ?ev ?hL ?hS ?h ?hl ?hb ?_; (case ev => (with_unfolding_all rfl)); (case hL => (with_unfolding_all walk_at "pr")); (case hS => (with_unfolding_all walk_at "pr")); (case h => (with_unfolding_all walk_at "pr")); (case hl => (with_unfolding_all walk_at "pr")); (case hb => (with_unfolding_all walk_at "pr")); intros))

theorem ok_is_damaged (T : Txt K mg) : FnOk P w K mg base CX0 7 T.a_is_damaged T.fd_is_damaged ["layout", "octets"] (sp_is_damaged K T.A_Layout) := by
  refine T.F_is_damaged.ok sc_is_damaged (fun vs H Q E h => ?_) (fun cdv A outer s H vs Q E hr h => ?_)
  · obtain ⟨p, a, L, os, rfl, _⟩ := h
    rfl
  · refine ⟨_, (pss_one (ps_ret (pe_and (pe_callB (cr_anyI rfl) (by rfl) T.n_any (by decide +kernel) (pa_cons (pv 1) pa_nil)) (pe_one (pe_cmp (pc_isN (pe_call (ok_read_block T) (hr.mono (by decide)) rfl T.m_read_block T.F_read_block.kp T.b_read_block .nil pass0 (pa_cons (pv 0) (pa_cons (pv 1) pa_nil)))) rfl))))), ?_⟩
    try dsimp only [cxOf, Cx.nox, Cx.wish]
    obtain ⟨p, a, L, os, rfl, hL, hS, h, hl, hb, q⟩ := h
    walk_at "go"
    refine r_anyI h ?_
    by_cases c : os.any (· != 0) = true
    · rw [c] at q ⊢
      walk_at "go"
      rename_i H1 v s1 hB hG
      cases e : readB L os with
      | none =>
        rw [e] at hB q
        have hv : v = .non := hB
        subst hv
        walk_at "go"
        exact q _ s1
      | some m =>
        rw [e] at hB q
        obtain ⟨t, b, rfl, _, _⟩ := hB
        walk_at "go"
        exact q _ s1
    · have c' : os.any (· != 0) = false := by simpa using c
      rw [c'] at q ⊢
      walk_at "go"
      exact q _ (Same.refl _)

/-! ### the law writes blocks -/
theorem octN_snoc : ∀ (k : Nat) (n : Int), octN n (k + 1) = octN n k ++ [n / 256 ^ k % 256]
  | 0, n => by
    rw [octN, octN, octN, Int.pow_zero, Int.ediv_one]
    rfl
  | k + 1, n => by
    rw [octN, octN_snoc k, octN, List.cons_append, Int.ediv_ediv_of_nonneg (by decide), Int.pow_succ, Int.mul_comm 256]
theorem LayS.las {L : Lay} (h : LayS L) : (L.seg - 1) * L.pay = L.last := by
  have e := h.c.lst
  have e2 := h.c.lim
  rw [show L.seg - 1 = (L.seg - 2) + 1 by omega, Int.add_mul, Int.one_mul]
  omega
def sp_law_octets  : Sp := fun args_ H Q _ => ∃ (n c : Int), args_ = [.int n, .int c] ∧ 0 ≤ c ∧ c ≤ 1000 ∧ ∀ (H' : Hp) (l : Addr), Same H H' → H l = none → H' l = some (.lst ((octN n c.toNat).map V.int)) → Q (.ref l) H'
theorem i_law_octets  {args_ : List V} {H : Hp} {Q : V → Hp → Prop} {E : XK} {n c : Int} (ev : args_ = [.int n, .int c]) (c0 : 0 ≤ c) (c1 : c ≤ 1000) (q : ∀ (H' : Hp) (l : Addr), Same H H' → H l = none → H' l = some (.lst ((octN n c.toNat).map V.int)) → Q (.ref l) H') : sp_law_octets  args_ H Q E := ⟨n, c, ev, c0, c1, q⟩
local macro_rules | `(tactic| walk_at "ca1") => `(tactic| with_reducible (refine' Sg.i_law_octets ?ev ?c0 ?c1 ?_; (case ev => (with_unfolding_all rfl)); (case c0 => (with_unfolding_all walk_at "pr")); (case c1 => (with_unfolding_all walk_at "pr")); intros))

theorem ok_law_octets (T : Txt K mg) : FnOk P w K mg base CX0 1 T.a_law_octets T.fd_law_octets ["number", "count"] sp_law_octets := by
  refine T.F_law_octets.ok sc_law_octets (fun vs H Q E h => ?_) (fun cdv A outer s H vs Q E hr h => ?_)
  · obtain ⟨n, c, rfl, _⟩ := h
    rfl
  · refine ⟨_, (pss_cons (ps_set (i := 2) sc_law_octets.nd rfl (Or.inl rfl) (pe_lst pa_nil))
       (pss_cons (ps_for PassesOwn.never rfl (pi_range1 rfl T.n_range (pa_cons (pv 1) pa_nil)) (pg_name (i := 3) sc_law_octets.nd rfl (Or.inl rfl))
       (pss_cons (ps_expr (pe_bm PySem.F.plainAttrs_list PySem.F.slot_list_append PySem.F.type_list_append mt_append (pv 2) (pa_cons (pe_op op_mod (pe_callTy c_int (by rfl) T.n_int (by decide +kernel) (pa_cons (pv 0) pa_nil)) pe_int) pa_nil)))
       (pss_one (ps_set (i := 0) sc_law_octets.nd rfl (Or.inl rfl) (pe_op op_fdivW (pv 0) pe_int)))))
       (pss_one (ps_ret (pv 2))))), ?_⟩
    try dsimp only [cxOf, Cx.nox, Cx.wish]
    obtain ⟨n, c, rfl, c0, c1, q⟩ := h
    walk_at "go"
    rename_i l nl H1 s1 g1
    refine r_forR (fun i σ' H' => ∃ (v3 : Option V), σ' = [some (.int (n / 256 ^ i)), some (.int c), some (.ref l), v3] ∧ Same H H' ∧ H' l = some (.lst ((octN n i).map V.int))) ⟨_, by rw [Int.pow_zero, Int.ediv_one]; rfl, s1, g1⟩ ?_ ?_
    · rintro i σ' H' hi ⟨v3, rfl, s2, g2⟩
      walk_at "go"
      rename_i z hz z0 z1
      refine r_app g2 (by rw [List.length_map, octN_len, sz]; omega) ?_
      generalize hH : upd _ _ _ = H2
      have g3 := Sg.at_new hH
      have s3 : Same H H2 := Sg.Same.old s2 nl hH
      walk_at "go"
      refine ⟨_, _, rfl, rfl, wide_div (b := 64) (by decide) (by omega) (by decide) (by decide), ?_⟩
      have e : n / 256 ^ i / 256 = n / 256 ^ (i + 1) := by
        rw [Int.ediv_ediv_of_nonneg (Int.le_of_lt (Int.pow_pos (by decide))), Int.pow_succ]
      refine ⟨some (.int (0 + (i : Int))), ?_, s3, ?_⟩
      · rw [← e]
        rfl
      · rw [g3, octN_snoc, List.map_append, hz]
        rfl
    · rintro σ' H' ⟨v3, rfl, s2, g2⟩
      walk_at "go"
      exact q _ _ s2 nl g2
def sp_law_pairs (K : PySem.W.Frag) : Sp := fun args_ H Q _ => ∃ (a : Addr) (ns : List Int) (c : Int), args_ = [.ref a, .int c] ∧ SqT K H a (ns.map V.int) ∧ (ns.length : Int) ≤ c ∧ c ≤ 500 ∧ (∀ x ∈ ns, 0 ≤ x ∧ x < 65536) ∧ ∀ (H' : Hp) (l : Addr), Same H H' → H l = none → H' l = some (.lst ((filI (pairsO ns) (2 * c).toNat).map V.int)) → Q (.ref l) H'
theorem i_law_pairs {K : PySem.W.Frag} {args_ : List V} {H : Hp} {Q : V → Hp → Prop} {E : XK} {a : Addr} {ns : List Int} {c : Int} (ev : args_ = [.ref a, .int c]) (h : SqT K H a (ns.map V.int)) (hc : (ns.length : Int) ≤ c) (c1 : c ≤ 500) (hx : (∀ x ∈ ns, 0 ≤ x ∧ x < 65536)) (q : ∀ (H' : Hp) (l : Addr), Same H H' → H l = none → H' l = some (.lst ((filI (pairsO ns) (2 * c).toNat).map V.int)) → Q (.ref l) H') : sp_law_pairs K args_ H Q E := ⟨a, ns, c, ev, h, hc, c1, hx, q⟩
local macro_rules | `(tactic| walk_at "ca1") => `(tactic| with_reducible (refine' Sg.i_law_pairs ?ev ?h ?hc ?c1 ?hx ?_; (case ev => (with_unfolding_all rfl)); (case h => (with_unfolding_all walk_at "pr")); (case hc => (with_unfolding_all walk_at "pr")); (case c1 => (with_unfolding_all walk_at "pr")); (case hx => (with_unfolding_all walk_at "pr")); intros))

theorem ok_law_pairs (T : Txt K mg) : FnOk P w K mg base CX0 2 T.a_law_pairs T.fd_law_pairs ["numbers", "count"] (sp_law_pairs K) := by
  refine T.F_law_pairs.ok sc_law_pairs (fun vs H Q E h => ?_) (fun cdv A outer s H vs Q E hr h => ?_)
  · obtain ⟨a, ns, c, rfl, _⟩ := h
    rfl
  · refine ⟨_, (pss_cons (ps_set (i := 2) sc_law_pairs.nd rfl (Or.inl rfl) (pe_lst pa_nil))
       (pss_cons (ps_for PassesOwn.never rfl (pi_tup (pv 0)) (pg_name (i := 3) sc_law_pairs.nd rfl (Or.inl rfl))
       (pss_one (ps_set (i := 2) sc_law_pairs.nd rfl (Or.inl rfl) (pe_op op_cat (pv 2) (pe_call (ok_law_octets T) (hr.mono (by decide)) rfl T.m_law_octets T.F_law_octets.kp T.b_law_octets .nil pass0 (pa_cons (pv 3) (pa_cons pe_int pa_nil)))))))
       (pss_one (ps_ret (pe_op op_cat (pv 2) (pe_op op_rep (pe_lst (pa_cons pe_int pa_nil)) (pe_op op_mul pe_int (pe_op op_sub (pv 1) (pe_callB (c_len) (by rfl) T.n_len (by decide +kernel) (pa_cons (pv 0) pa_nil)))))))))), ?_⟩
    try dsimp only [cxOf, Cx.nox, Cx.wish]
    obtain ⟨a, ns, c, rfl, h, hc, c1, hx, q⟩ := h
    walk_at "go"
    rename_i l nl H1 s1 g1
    refine r_forT (xs := ns.map V.int) (fun i σ' H' => ∃ (v3 : Option V) (r : Addr), σ' = [some (.ref a), some (.int c), some (.ref r), v3] ∧ Same H H' ∧ H' r = some (.lst ((pairsO (ns.take i)).map V.int))) ⟨_, _, rfl, s1, g1⟩ (fun i σ' H' _ ⟨_, _, _, s, _⟩ => Same.tup s h) ?_ ?_
    · rintro i x σ' H' hx' ⟨v3, r, rfl, s2, g2⟩
      rw [List.getElem?_map] at hx'
      obtain ⟨z, hz, rfl⟩ := Option.map_eq_some_iff.mp hx'
      obtain ⟨z0, z1⟩ := hx z (List.mem_of_getElem? hz)
      have hil := (List.getElem?_eq_some_iff.mp hz).1
      have hpl : (pairsO (ns.take i)).length ≤ 1000 := by rw [pairsO_len, List.length_take]; omega
      have l2 : (octN z (Int.toNat 2)).length = 2 := octN_len _ _
      walk_at "go"
      rename_i H3 l3 s3 n3 g3 H4 l4 s4 n4 g4
      refine ⟨_, _, rfl, s2.trans (s3.trans s4), ?_⟩
      rw [g4, List.take_add_one, hz]
      show some (HO.lst (List.map V.int (pairsO (ns.take i) ++ octN z 2))) = some (HO.lst (List.map V.int (pairsO (ns.take i ++ [z]))))
      rw [pairsO_snoc]
    · rintro σ' H' ⟨v3, r, rfl, s2, g2⟩
      rw [List.length_map, List.take_length] at g2
      have hpl := pairsO_len ns
      have h2 := Same.tup s2 h
      walk_at "go"
      rename_i p3 n3 H3 s3 g3
      rw [List.length_map]
      refine r_rep1 g3 (by omega) (by omega) ?_
      walk_at "al"
      rename_i p4 n4 H4 s4 g4
      refine r_catI (s4 _ _ (s3 _ _ g2)) g4 .map .rep (by rw [List.length_replicate]; omega) ?_
      intro H5 l5 s5 n5 g5
      refine q _ _ (by walk_at "sm") (by walk_at "nn") ?_
      rw [g5, filI_of (by omega), hpl, show (2 * (c - (ns.length : Int))).toNat = (2 * c).toNat - 2 * ns.length by omega]
def sp_law_bits (K : PySem.W.Frag) : Sp := fun args_ H Q _ => ∃ (u : Addr) (us : List Nat) (n : Int), args_ = [.ref u, .int n] ∧ SqT K H u ((idsOf us).map V.int) ∧ us.Pairwise (· < ·) ∧ (∀ x ∈ us, x < n.toNat) ∧ 0 ≤ n ∧ n ≤ 1000 ∧ ∀ (H' : Hp) (l : Addr), Same H H' → H l = none → H' l = some (.lst ((bitsO n.toNat us).map V.int)) → Q (.ref l) H'
theorem i_law_bits {K : PySem.W.Frag} {args_ : List V} {H : Hp} {Q : V → Hp → Prop} {E : XK} {u : Addr} {us : List Nat} {n : Int} (ev : args_ = [.ref u, .int n]) (h : SqT K H u ((idsOf us).map V.int)) (h3 : us.Pairwise (· < ·)) (h4 : (∀ x ∈ us, x < n.toNat)) (n0 : 0 ≤ n) (n1 : n ≤ 1000) (q : ∀ (H' : Hp) (l : Addr), Same H H' → H l = none → H' l = some (.lst ((bitsO n.toNat us).map V.int)) → Q (.ref l) H') : sp_law_bits K args_ H Q E := ⟨u, us, n, ev, h, h3, h4, n0, n1, q⟩
local macro_rules | `(tactic| walk_at "ca1") => `(tactic| with_reducible (refine' Sg.i_law_bits ?ev ?h ?h3 ?h4 ?n0 ?n1 ?_; (case ev => (with_unfolding_all rfl)); (case h => (with_unfolding_all walk_at "pr")); (case h3 => (with_unfolding_all walk_at "pr")); (case h4 => (with_unfolding_all walk_at "pr")); (case n0 => (with_unfolding_all walk_at "pr")); (case n1 => (with_unfolding_all walk_at "pr")); intros))

theorem ok_law_bits (T : Txt K mg) : FnOk P w K mg base CX0 1 T.a_law_bits T.fd_law_bits ["used", "last"] (sp_law_bits K) := by
  refine T.F_law_bits.ok sc_law_bits (fun vs H Q E h => ?_) (fun cdv A outer s H vs Q E hr h => ?_)
  · obtain ⟨u, us, n, rfl, _⟩ := h
    rfl
  · refine ⟨_, (pss_cons (ps_set (i := 2) sc_law_bits.nd rfl (Or.inl rfl) (pe_op op_rep (pe_lst (pa_cons pe_int pa_nil)) (pe_op op_fdiv (pe_op op_add (pv 1) pe_int) pe_int)))
       (pss_cons (ps_for PassesOwn.never rfl (pi_tup (pv 0)) (pg_name (i := 3) sc_law_bits.nd rfl (Or.inl rfl))
       (pss_cons (ps_set (i := 4) sc_law_bits.nd rfl (Or.inl rfl) pe_int)
       (pss_cons (ps_for PassesOwn.never rfl (pi_range1 rfl T.n_range (pa_cons (pe_op op_mod (pe_callTy c_int (by rfl) T.n_int (by decide +kernel) (pa_cons (pe_op op_sub (pv 3) pe_int) pa_nil)) pe_int) pa_nil)) (pg_name (i := 5) sc_law_bits.nd rfl (Or.inl rfl))
       (pss_one (ps_set (i := 4) sc_law_bits.nd rfl (Or.inl rfl) (pe_op op_mul (pv 4) pe_int))))
       (pss_one (ps_asg (pe_op op_add (pe_ix ix_list (pv 2) (pe_op op_fdiv (pe_op op_sub (pv 3) pe_int) pe_int) (fun _ _ => rfl)) (pv 4)) (pg_sub (pv 2) (pe_op op_fdiv (pe_op op_sub (pv 3) pe_int) pe_int) set_list))))))
       (pss_one (ps_ret (pv 2))))), ?_⟩
    try dsimp only [cxOf, Cx.nox, Cx.wish]
    obtain ⟨u, us, n, rfl, h, h3, h4, n0, n1, q⟩ := h
    walk_at "go"
    rename_i l1 n1' H1 s1 g1 o no H2 s2 g2
    have no' : H o = none := s1.free no
    rw [show ∀ k : Nat, List.replicate k (V.int 0) = (List.replicate k (0 : Int)).map V.int from fun k => List.map_replicate.symm, show ((n + 7) / 8).toNat = (n.toNat + 7) / 8 by omega] at g2
    refine r_forT (xs := (idsOf us).map V.int) (fun i σ' H' => ∃ (v3 v4 v5 : Option V), σ' = [some (.ref u), some (.int n), some (.ref o), v3, v4, v5] ∧ Same H H' ∧ H' o = some (.lst (((us.take i).foldl addBit (List.replicate ((n.toNat + 7) / 8) 0)).map V.int))) ⟨_, _, _, rfl, s1.trans s2, g2⟩ (fun i σ' H' _ ⟨_, _, _, _, s, _⟩ => Same.tup s h) ?_ ?_
    · rintro i x σ' H' hx' ⟨v3, v4, v5, rfl, s3, g3⟩
      unfold idsOf at hx'
      rw [List.getElem?_map, List.getElem?_map] at hx'
      cases hu : us[i]? with
      | none => rw [hu] at hx'; cases hx'
      | some p =>
        rw [hu] at hx'
        simp only [Option.map_some, Option.some.injEq] at hx'
        subst hx'
        have hp := h4 p (List.mem_of_getElem? hu)
        generalize hrow : List.foldl addBit _ _ = row at g3
        have hrl : row.length = (n.toNat + 7) / 8 := by rw [← hrow, foldBit_len, List.length_replicate]
        walk_at "go"
        rename_i z hz z0 z1
        refine r_forR (fun j σ' H'' => ∃ (v5 : Option V), σ' = [some (.ref u), some (.int n), some (.ref o), some (.int ((p : Int) + 1)), some (.int (2 ^ j)), v5] ∧ H' = H'') ⟨_, rfl, rfl⟩ ?_ ?_
        · rintro j σ' H'' hj ⟨v5, rfl, rfl⟩
          walk_at "go"
          exact ⟨_, by rw [Int.pow_succ]; rfl, rfl⟩
        rintro σ' H'' ⟨v5, rfl, rfl⟩
        have ep : (p : Int) + 1 - 1 = (p : Int) := by omega
        have z2 : 0 ≤ (p : Int) / 8 := by omega
        have z3 : (p : Int) / 8 < row.length := by omega
        have tn : ((p : Int) / 8).toNat = p / 8 := by omega
        have tz : z.toNat = p % 8 := by omega
        walk_at "go"
        rw [ep]
        refine r_ixl (.of g3) (at_ints z2 z3) ?_
        walk_at "go"
        refine r_setl g3 (ixN_ok (by omega) (by rw [List.length_map]; omega)) ?_
        generalize hH : upd _ _ _ = H4
        have g5 := Sg.at_new hH
        have s5 : Same H H4 := Sg.Same.old s3 no' hH
        walk_at "go"
        refine ⟨_, _, _, rfl, s5, ?_⟩
        rw [g5, set_ints, ep, tn, tz, List.take_add_one, hu, List.foldl_append, hrow]
        rfl
    · rintro σ' H' ⟨v3, v4, v5, rfl, s3, g3⟩
      walk_at "go"
      rw [List.length_map, idsOf_len, List.take_length] at g3
      exact q _ _ s3 no' g3
def sp_law_body (K : PySem.W.Frag) (C : Addr) : Sp := fun args_ H Q _ => ∃ (p v : Addr) (L : Lay) (b : BB), args_ = [.ref p, .int (kindB b), .ref v] ∧ LayAt C L H p ∧ LayS L ∧ BodyAt K H v b ∧ GoodB L b ∧ ∀ (H' : Hp) (l : Addr), Same H H' → H l = none → H' l = some (.lst ((filI (bodyO L b) L.size.toNat).map V.int)) → Q (.ref l) H'
theorem i_law_body {K : PySem.W.Frag} {C : Addr} {args_ : List V} {H : Hp} {Q : V → Hp → Prop} {E : XK} {p v : Addr} {L : Lay} {b : BB} (ev : args_ = [.ref p, .int (kindB b), .ref v]) (hL : LayAt C L H p) (hS : LayS L) (hb : BodyAt K H v b) (hg : GoodB L b) (q : ∀ (H' : Hp) (l : Addr), Same H H' → H l = none → H' l = some (.lst ((filI (bodyO L b) L.size.toNat).map V.int)) → Q (.ref l) H') : sp_law_body K C args_ H Q E := ⟨p, v, L, b, ev, hL, hS, hb, hg, q⟩
local macro_rules | `(tactic| walk_at "ca1") => `(tactic| with_reducible (refine' Sg.i_law_body ?ev ?hL ?hS ?hb ?hg ?_; (case ev => (with_unfolding_all rfl)); (case hL => (with_unfolding_all walk_at "pr")); (case hS => (with_unfolding_all walk_at "pr")); (case hb => (with_unfolding_all walk_at "pr")); (case hg => (with_unfolding_all walk_at "pr")); intros))

theorem ok_law_body (T : Txt K mg) : FnOk P w K mg base CX0 3 T.a_law_body T.fd_law_body ["layout", "kind", "body"] (sp_law_body K T.A_Layout) := by
  refine T.F_law_body.ok sc_law_body (fun vs H Q E h => ?_) (fun cdv A outer s H vs Q E hr h => ?_)
  · obtain ⟨p, v, L, b, rfl, _⟩ := h
    rfl
  · refine ⟨_, (pss_cons (ps_set (i := 3) sc_law_body.nd rfl (Or.inl rfl) (pe_op op_sub (pe_fld (pv 0) rfl) pe_int))
       (C8.pss_cut (ps_if (pt_cmpR op_eq (pv 1) pe_int (nomark _))
       (pss_cons (ps_set (i := 4) sc_law_body.nd rfl (Or.inl rfl) (pe_op op_cat (pe_op op_cat (pe_op op_cat (pe_lst (pa_cons pe_int (pa_cons pe_int (pa_cons pe_int (pa_cons pe_int (pa_cons pe_int pa_nil)))))) (pe_call (ok_law_octets T) (hr.mono (by decide)) rfl T.m_law_octets T.F_law_octets.kp T.b_law_octets .nil pass0 (pa_cons (pe_callB (c_len) (by rfl) T.n_len (by decide +kernel) (pa_cons (pe_ix ix_tup (pv 2) pe_int (fun _ _ => rfl)) pa_nil)) (pa_cons pe_int pa_nil)))) (pe_lst (pa_cons (pe_ix ix_tup (pv 2) pe_int (fun _ _ => rfl)) pa_nil))) (pe_op op_rep (pe_lst (pa_cons pe_int pa_nil)) pe_int)))
       (pss_one (ps_set (i := 4) sc_law_body.nd rfl (Or.inl rfl) (pe_op op_cat (pe_op op_cat (pv 4) (pe_call (ok_law_pairs T) (hr.mono (by decide)) rfl T.m_law_pairs T.F_law_pairs.kp T.b_law_pairs .nil pass0 (pa_cons (pe_ix ix_tup (pv 2) pe_int (fun _ _ => rfl)) (pa_cons (pv 3) pa_nil)))) (pe_call (ok_law_bits T) (hr.mono (by decide)) rfl T.m_law_bits T.F_law_bits.kp T.b_law_bits .nil pass0 (pa_cons (pe_ix ix_tup (pv 2) pe_int (fun _ _ => rfl)) (pa_cons (pe_op op_mul (pe_op op_sub (pe_fld (pv 0) rfl) pe_int) (pv 3)) pa_nil)))))))
       (pss_one (ps_if (pt_cmpR op_eq (pv 1) pe_int (nomark _))
       (pss_one (ps_set (i := 4) sc_law_body.nd rfl (Or.inl rfl) (pe_op op_cat (pe_op op_cat (pe_op op_cat (pe_lst (pa_cons pe_int (pa_cons pe_int (pa_cons pe_int (pa_cons pe_int (pa_cons pe_int pa_nil)))))) (pe_call (ok_law_octets T) (hr.mono (by decide)) rfl T.m_law_octets T.F_law_octets.kp T.b_law_octets .nil pass0 (pa_cons (pe_callB (c_len) (by rfl) T.n_len (by decide +kernel) (pa_cons (pv 2) pa_nil)) (pa_cons pe_int pa_nil)))) (pe_op op_rep (pe_lst (pa_cons pe_int pa_nil)) pe_int)) (pe_call (ok_law_pairs T) (hr.mono (by decide)) rfl T.m_law_pairs T.F_law_pairs.kp T.b_law_pairs .nil pass0 (pa_cons (pv 2) (pa_cons (pv 3) pa_nil))))))
       (pss_one (ps_if (pt_cmpR op_eq (pv 1) pe_int (nomark _))
       (pss_one (ps_set (i := 4) sc_law_body.nd rfl (Or.inl rfl) (pe_callTy c_list (by rfl) T.n_list (by decide +kernel) (pa_cons (pv 2) pa_nil))))
       (pss_one (ps_set (i := 4) sc_law_body.nd rfl (Or.inl rfl) (pe_call (ok_law_pairs T) (hr.mono (by decide)) rfl T.m_law_pairs T.F_law_pairs.kp T.b_law_pairs .nil pass0 (pa_cons (pv 2) (pa_cons (pe_callB (c_len) (by rfl) T.n_len (by decide +kernel) (pa_cons (pv 2) pa_nil)) pa_nil))))))))))
       (pss_one (ps_ret (pe_op op_cat (pv 4) (pe_op op_rep (pe_lst (pa_cons pe_int pa_nil)) (pe_op op_sub (pe_fld (pv 0) rfl) (pe_callB (c_len) (by rfl) T.n_len (by decide +kernel) (pa_cons (pv 4) pa_nil))))))))), ?_⟩
    try dsimp only [cxOf, Cx.nox, Cx.wish]
    obtain ⟨p, v, L, b, rfl, hL, hS, hb, hg, q⟩ := h
    have cl_Layout := T.cl_Layout
    have na_Layout_block_size := T.na_Layout_block_size
    have na_Layout_segment_blocks := T.na_Layout_segment_blocks
    have na_Layout_segments := T.na_Layout_segments
    obtain ⟨dx, fs, hp, F⟩ := id hL
    have lk1 := F.seg
    have lk2 := F.blk
    have lk3 := F.size
    have p0 := hS.c.pay
    have b0 := hS.c.b0
    have b1 := hS.c.b1
    have l0 := hS.c.l0
    have l1 := hS.c.l1
    have z1 := hS.c.z1
    have f1 := hS.c.f1
    have las := hS.las
    have p0' : L.blk - 1 = L.pay := p0.symm
    have bl := bodyO_len hS hg
    have bz := bodyO_le hS hg
    walk_at "go"
    rw [p0']
    refine r_cut (fun σ' H' => ∃ r, σ' = [some (.ref p), some (.int (kindB b)), some (.ref v), some (.int L.pay), some (.ref r)] ∧ Same H H' ∧ ∃ rs : List Int, H' r = some (.lst (rs.map V.int)) ∧ rs.length ≤ L.size.toNat ∧ filI rs L.size.toNat = filI (bodyO L b) L.size.toNat) ?_ ?_
    · cases b with
      | cm ids us a =>
        obtain ⟨i, u, hv, hi, hu⟩ := hb
        obtain ⟨h1, h2, h3, h4, h5, h6⟩ := hg
        have k1 : kindB (BB.cm ids us a) = 1 := rfl
        have n1 : ids.length ≤ 1000 := by omega
        rw [k1]
        walk_at "go"
        rw [las]
        walk_at "go"
        rename_i g
        rw [List.length_map] at g
        exact ⟨_, rfl, by walk_at "sm", _, g, bz, rfl⟩
      | ot k ns =>
        obtain ⟨h1, h2, h3, h4, h5, h6⟩ := hg
        have k1 : kindB (BB.ot k ns) = k := rfl
        have hb' : SqT K H v (ns.map V.int) := hb
        have pl := pairsO_len ns
        rw [k1]
        rcases (by omega : k = 2 ∨ k = 3 ∨ 4 ≤ k) with z | z | z
        · have n1 := h4 z
          have sf := hS.sf
          subst z
          walk_at "go"
          rename_i g
          rw [List.length_map] at g
          refine ⟨_, rfl, by walk_at "sm", _, g, ?_, ?_⟩
          · rw [List.length_append, filI_len]
            have e : ([83, 71, 70, 83, 2] ++ octN (ns.length : Int) (Int.toNat 2) ++ List.replicate (Int.toNat 9) (0 : Int)).length = 16 := rfl
            omega
          · have e : bodyO L (.ot 2 ns) = filI (headO 2 ns.length) 16 ++ pairsO ns := rfl
            rw [e]
            show filI (filI (headO 2 ns.length) 16 ++ filI (pairsO ns) (2 * L.pay).toNat) _ = _
            rw [filI_of (ns := pairsO ns) (by omega), ← List.append_assoc, filI_of (by rw [List.length_append, List.length_append, List.length_replicate, filI_len]; omega), filI_of (ns := filI (headO 2 ns.length) 16 ++ pairsO ns) (by rw [List.length_append, filI_len]; omega), List.append_assoc, List.replicate_append_replicate, List.length_append, List.length_append, List.length_replicate, filI_len]
            congr 2
            omega
        · subst z
          walk_at "go"
          rename_i g
          exact ⟨_, rfl, by walk_at "sm", _, g, bz, rfl⟩
        · have n1 := h6 z
          walk_at "go"
          rw [List.length_map]
          have hc : (ns.length : Int) ≤ (ns.length : Int) := Int.le_refl _
          have hc5 : (ns.length : Int) ≤ 500 := by omega
          have eb : bodyO L (.ot k ns) = pairsO ns := by
            show (if k = 2 then _ else if k = 3 then _ else _) = _
            rw [if_neg (by omega), if_neg (by omega)]
          walk_at "go"
          rename_i g
          have e : filI (pairsO ns) (2 * (ns.length : Int)).toNat = pairsO ns := by
            rw [filI_of (by omega), show (2 * (ns.length : Int)).toNat - (pairsO ns).length = 0 by omega, List.replicate_zero, List.append_nil]
          rw [e] at g
          exact ⟨_, rfl, by walk_at "sm", _, g, by rw [← eb]; exact bz, by rw [eb]⟩
    · rintro σ' H' ⟨r, rfl, s1, rs, g1, hr1, hr2⟩
      have z0 := hS.c.z0
      walk_at "go"
      rename_i p2 n2 H2 s2 g2
      rw [List.length_map]
      refine r_rep1 g2 (by omega) (by omega) ?_
      walk_at "al"
      rename_i p3 n3 H3 s3 g3
      refine r_catI (s3 _ _ (s2 _ _ g1)) g3 .map .rep (by rw [List.length_replicate]; omega) ?_
      intro H4 l4 s4 n4 g4
      refine q _ _ (by walk_at "sm") (by walk_at "nn") ?_
      rw [g4, ← hr2, filI_of hr1, show (L.size - (rs.length : Int)).toNat = L.size.toNat - rs.length by omega]
def sp_law_written (K : PySem.W.Frag) (C : Addr) : Sp := fun args_ H Q _ => ∃ (p : Addr) (v : V) (L : Lay) (o : Option BM), args_ = [.ref p, v] ∧ LayAt C L H p ∧ LayS L ∧ BlkAt K H v o ∧ (∀ m, o = some m → GoodM L m) ∧ ∀ (H' : Hp) (l : Addr), Same H H' → H l = none → H' l = some (.lst ((blkO L o).map V.int)) → Q (.ref l) H'
theorem i_law_written {K : PySem.W.Frag} {C : Addr} {args_ : List V} {H : Hp} {Q : V → Hp → Prop} {E : XK} {p : Addr} {v : V} {L : Lay} {o : Option BM} (ev : args_ = [.ref p, v]) (hL : LayAt C L H p) (hS : LayS L) (hb : BlkAt K H v o) (hg : (∀ m, o = some m → GoodM L m)) (q : ∀ (H' : Hp) (l : Addr), Same H H' → H l = none → H' l = some (.lst ((blkO L o).map V.int)) → Q (.ref l) H') : sp_law_written K C args_ H Q E := ⟨p, v, L, o, ev, hL, hS, hb, hg, q⟩
local macro_rules | `(tactic| walk_at "ca1") => `(tactic| with_reducible (refine' Sg.i_law_written ?ev ?hL ?hS ?hb ?hg ?_; (case ev => (with_unfolding_all rfl)); (case hL => (with_unfolding_all walk_at "pr")); (case hS => (with_unfolding_all walk_at "pr")); (case hb => (with_unfolding_all walk_at "pr")); (case hg => (with_unfolding_all walk_at "pr")); intros))

theorem ok_law_written (T : Txt K mg) : FnOk P w K mg base CX0 4 T.a_law_written T.fd_law_written ["layout", "block"] (sp_law_written K T.A_Layout) := by
  refine T.F_law_written.ok sc_law_written (fun vs H Q E h => ?_) (fun cdv A outer s H vs Q E hr h => ?_)
  · obtain ⟨p, v, L, o, rfl, _⟩ := h
    rfl
  · refine ⟨_, (pss_cons (ps_if (pt_cmp (pc_isN (pv 1)) rfl)
       (pss_one (ps_ret (pe_op op_rep (pe_lst (pa_cons pe_int pa_nil)) (pe_op op_add pe_int (pe_fld (pv 0) rfl)))))
       pss_nil)
       (pss_cons (ps_set (i := 2) sc_law_written.nd rfl (Or.inl rfl) (pe_op op_cat (pe_op op_cat (pe_op op_cat (pe_lst (pa_cons (pe_ix ix_tup (pv 1) pe_int (fun _ _ => rfl)) pa_nil)) (pe_call (ok_law_octets T) (hr.mono (by decide)) rfl T.m_law_octets T.F_law_octets.kp T.b_law_octets .nil pass0 (pa_cons (pe_ix ix_tup (pv 1) pe_int (fun _ _ => rfl)) (pa_cons pe_int pa_nil)))) (pe_call (ok_law_octets T) (hr.mono (by decide)) rfl T.m_law_octets T.F_law_octets.kp T.b_law_octets .nil pass0 (pa_cons (pe_ix ix_tup (pv 1) pe_int (fun _ _ => rfl)) (pa_cons pe_int pa_nil)))) (pe_op op_rep (pe_lst (pa_cons pe_int pa_nil)) pe_int)))
       (pss_one (ps_ret (pe_op op_cat (pv 2) (pe_call (ok_law_body T) (hr.mono (by decide)) rfl T.m_law_body T.F_law_body.kp T.b_law_body .nil pass0 (pa_cons (pv 0) (pa_cons (pe_ix ix_tup (pv 1) pe_int (fun _ _ => rfl)) (pa_cons (pe_ix ix_tup (pv 1) pe_int (fun _ _ => rfl)) pa_nil))))))))), ?_⟩
    try dsimp only [cxOf, Cx.nox, Cx.wish]
    obtain ⟨p, v, L, o, rfl, hL, hS, hb, hg, q⟩ := h
    have cl_Layout := T.cl_Layout
    have na_Layout_block_size := T.na_Layout_block_size
    obtain ⟨dx, fs, hp, F⟩ := id hL
    have lk2 := F.size
    have z0 := hS.c.z0
    have z1 := hS.c.z1
    cases o with
    | none =>
      have hb' : v = .non := hb
      subst hb'
      walk_at "go"
      rename_i g
      refine q _ _ (by walk_at "sm") (by walk_at "nn") (g.trans ?_)
      rw [← List.map_replicate]
      rfl
    | some m =>
      obtain ⟨t, b, rfl, ht, hb'⟩ := hb
      obtain ⟨m1, m2, m3, m4, hg'⟩ := hg m rfl
      walk_at "go"
      rename_i g
      exact q _ _ (by walk_at "sm") (by walk_at "nn") g

def sp_number (K : PySem.W.Frag) : Sp := fun vs H Q _ => ∃ (a : Addr) (ns : List Int) (k : Int), vs = [.ref a, .int k] ∧ SqL K H a (ns.map V.int) ∧ ns.length ≤ 63 ∧ 0 ≤ k ∧ k ≤ 1000 ∧ ∀ z : Int, 0 ≤ z → Q (.int z) H
theorem ok_law_number (T : Txt K mg) : FnOk P w K mg base CX0 1 T.a_law_number T.fd_law_number ["script", "k"] (sp_number K) := by
  refine T.F_law_number.ok sc_law_number (fun vs H Q E h => ?_) (fun cdv A outer s H vs Q E hr h => ?_)
  · obtain ⟨a, ns, k, rfl, _⟩ := h
    rfl
  · refine ⟨_, (pss_cons (ps_set (i := 2) sc_law_number.nd rfl (Or.inl rfl) pe_int)
       (C8.pss_cut (ps_if (pt_cmpR op_gt (pe_callB (c_len) (by rfl) T.n_len (by decide +kernel) (pa_cons (pv 0) pa_nil)) pe_int (nomark _))
       (pss_one (ps_set (i := 2) sc_law_number.nd rfl (Or.inl rfl) (pe_ix ix_list (pv 0) (pe_op op_mod (pe_callTy c_int (by rfl) T.n_int (by decide +kernel) (pa_cons (pv 1) pa_nil)) (pe_callB (c_len) (by rfl) T.n_len (by decide +kernel) (pa_cons (pv 0) pa_nil))) (fun _ _ => rfl))))
       pss_nil)
       (C8.pss_cut (ps_if (pt_cmpR op_lt (pv 2) pe_int (nomark _))
       (pss_one (ps_set (i := 2) sc_law_number.nd rfl (Or.inl rfl) (pe_op op_sub pe_int (pe_op op_mul pe_int (pv 2)))))
       pss_nil)
       (C8.pss_cut (ps_if (PW.pt (pw_and (pt_cmpR op_ge (pv 2) (pe_op op_pow pe_int pe_int) (nomark _)) (pw_and1 (pt_cmpR op_lt (pv 1) (pe_callB (c_len) (by rfl) T.n_len (by decide +kernel) (pa_cons (pv 0) pa_nil)) (nomark _)))))
       (pss_one (ps_ret (pv 2)))
       pss_nil)
       (pss_cons (ps_set (i := 3) sc_law_number.nd rfl (Or.inl rfl) (pe_op op_mod (pe_callTy c_int (by rfl) T.n_int (by decide +kernel) (pa_cons (pe_op op_add (pe_op op_mul (pe_op op_add (pv 2) pe_int) pe_int) (pe_op op_mul (pe_op op_add (pv 1) pe_int) pe_int)) pa_nil)) pe_int))
       (pss_cons (ps_set (i := 4) sc_law_number.nd rfl (Or.inl rfl) (pe_op op_mod (pe_callTy c_int (by rfl) T.n_int (by decide +kernel) (pa_cons (pe_op op_add (pe_op op_add (pe_op op_mul (pe_op op_add (pv 3) pe_int) pe_int) (pe_op op_mul (pe_op op_add (pv 2) pe_int) pe_int)) (pv 1)) pa_nil)) pe_int))
       (pss_one (ps_ret (pe_op op_mod (pe_callTy c_int (by rfl) T.n_int (by decide +kernel) (pa_cons (pe_op op_add (pe_op op_add (pe_op op_mul (pv 3) pe_int) (pe_op op_mul (pv 4) pe_int)) (pv 2)) pa_nil)) pe_int))))))))), ?_⟩
    try dsimp only [cxOf, Cx.nox, Cx.wish]
    obtain ⟨a, ns, k, rfl, hS, h63, k0, k1, q⟩ := h
    walk_at "rd"
    refine r_cut (fun σ' H' => ∃ z : Int, σ' = [some (.ref a), some (.int k), some (.int z), none, none] ∧ H = H') ?_ ?_
    · walk_at "rd"
      refine r_ite (fun hlen => ?_) (fun _ => ?_)
      · rw [List.length_map] at hlen
        walk_at "rd"
        rename_i z hz z0 z1
        rw [List.length_map] at z1
        refine r_ixl hS (at_ints z0 (by omega)) ?_
        walk_at "rd"
        exact ⟨_, rfl, rfl⟩
      · exact ⟨_, rfl, rfl⟩
    · rintro _ _ ⟨z, rfl, rfl⟩
      walk_at "rd"
      refine r_cut (fun σ' H' => ∃ z : Int, 0 ≤ z ∧ σ' = [some (.ref a), some (.int k), some (.int z), none, none] ∧ H = H') ?_ ?_
      · walk_at "rd"
        refine r_ite (fun _ => ?_) (fun _ => ?_)
        · walk_at "rd"
          exact ⟨_, by omega, rfl, rfl⟩
        · exact ⟨_, by omega, rfl, rfl⟩
      · rintro _ _ ⟨y, y0, rfl, rfl⟩
        walk_at "rd"
        refine r_cutS ?_ ?_
        · walk_at "rd"
          refine r_ite (fun _ => ?_) (fun _ => ?_)
          · walk_at "rd"
            refine r_ite (fun _ => ?_) (fun _ => ?_)
            · walk_at "rd"
              exact q _ y0
            · exact ⟨rfl, rfl⟩
          · walk_at "rd"
            exact ⟨rfl, rfl⟩
        · walk_at "rd"
          exact q _ (by omega)
def sp_take : Sp := fun vs H Q _ => ∃ (l : Addr) (n s : Int), vs = [.ref l, .int s] ∧ H l = some (.lst [.int n]) ∧ 0 < s ∧ s < 1073741824 ∧ ∀ (H' : Hp) (d n' : Int), upd H l (.lst [.int n']) = H' → 0 ≤ d → d < s → Q (.int d) H'
theorem ok_law_take (T : Txt K mg) : FnOk P w K mg base CX0 1 T.a_law_take T.fd_law_take ["box", "size"] sp_take := by
  refine T.F_law_take.ok sc_law_take (fun vs H Q E h => ?_) (fun cdv A outer s H vs Q E hr h => ?_)
  · obtain ⟨l, n, s, rfl, _⟩ := h
    rfl
  · refine ⟨_, (pss_cons (ps_set (i := 2) sc_law_take.nd rfl (Or.inl rfl) (pe_op op_mod (pe_callTy c_int (by rfl) T.n_int (by decide +kernel) (pa_cons (pe_ix ix_list (pv 0) pe_int (fun _ _ => rfl)) pa_nil)) (pv 1)))
       (pss_cons (ps_asg (pe_op op_fdiv (pe_ix ix_list (pv 0) pe_int (fun _ _ => rfl)) (pv 1)) (pg_sub (pv 0) pe_int set_list))
       (pss_one (ps_ret (pv 2))))), ?_⟩
    try dsimp only [cxOf, Cx.nox, Cx.wish]
    obtain ⟨l, n, s, rfl, hl, s0, s1, q⟩ := h
    walk_at "rd"
    rename_i z hz z0 z1
    refine r_setl hl (ixN_ok (by decide) (by show (0 : Int) < 1; decide)) ?_
    generalize hH : upd _ _ _ = H'
    walk_at "rd"
    exact q _ _ _ hH z0 z1

/-! ### blocks are drawn -/
def Exb (b : Addr) (H H' : Hp) : Prop := ∀ x o, x ≠ b → H x = some o → H' x = some o
theorem Exb.of {b : Addr} {H H' : Hp} (s : Same H H') : Exb b H H' := fun x o _ h => s x o h
theorem Exb.trans {b : Addr} {H H1 H2 : Hp} (h : Exb b H H1) (h' : Exb b H1 H2) : Exb b H H2 := fun x o n q => h' x o n (h x o n q)
theorem Exb.put {b : Addr} {o : HO} {H H' : Hp} (e : upd H b o = H') : Exb b H H' := fun x u n q => by rw [← e, upd_ne n]; exact q
theorem Exb.same {b : Addr} {H0 H H' : Hp} (s : Same H0 H) (n : H0 b = none) (h : Exb b H H') : Same H0 H' := fun x o q => h x o (fun z => by rw [z, n] at q; cases q) (s x o q)
theorem Exb.tup {K : PySem.W.Frag} {b : Addr} {H H' : Hp} {x : Addr} {xs ys : List V} (h : Exb b H H') (hb : H b = some (.lst ys)) (q : SqT K H x xs) : SqT K H' x xs := by
  rcases q with (q | ⟨o, q⟩) | q
  · exact .inl (.inl (h x _ (fun z => by rw [z, hb] at q; cases q) q))
  · exact .inl (.inr ⟨o, h x _ (fun z => by rw [z, hb] at q; cases q) q⟩)
  · exact .inr q
theorem Exb.lay {C : Addr} {L : Lay} {b p : Addr} {H H' : Hp} {ys : List V} (h : Exb b H H') (hb : H b = some (.lst ys)) (q : LayAt C L H p) : LayAt C L H' p := by
  obtain ⟨dx, fs, hp, F⟩ := q
  exact ⟨dx, fs, h _ _ (fun z => by rw [z, hb] at hp; cases hp) hp, F⟩
theorem i_take {args_ : List V} {H : Hp} {Q : V → Hp → Prop} {E : XK} {b : Addr} {n s : Int} (ev : args_ = [.ref b, .int s]) (hb : H b = some (.lst [.int n])) (s0 : 0 < s) (s1 : s < 1073741824) (q : ∀ (H' : Hp) (d n' : Int), Exb b H H' → H' b = some (.lst [.int n']) → 0 ≤ d → d < s → Q (.int d) H') : sp_take args_ H Q E :=
  ⟨b, n, s, ev, hb, s0, s1, fun H' d n' e d0 d1 => q H' d n' (Exb.put e) (at_new e) d0 d1⟩
local macro_rules | `(tactic| walk_at "ca1") => `(tactic| with_reducible (refine' Sg.i_take ?ev ?hb ?s0 ?s1 ?_; (case ev => (with_unfolding_all rfl)); (case hb => (with_unfolding_all walk_at "hp")); (case s0 => omega); (case s1 => omega); intros))
def sp_law_numbers  : Sp := fun args_ H Q _ => ∃ (b : Addr) (n c m : Int), args_ = [.ref b, .int c, .int m] ∧ H b = some (.lst [.int n]) ∧ 0 ≤ c ∧ c ≤ 1000 ∧ 0 < m ∧ m ≤ 65536 ∧ ∀ (H' : Hp) (l : Addr) (ns : List Int) (n' : Int), Exb b H H' → H' b = some (.lst [.int n']) → H l = none → H' l = some (.lst (ns.map V.int)) → (ns.length : Int) = c → (∀ x ∈ ns, 0 ≤ x ∧ x < m) → Q (.ref l) H'
theorem i_law_numbers  {args_ : List V} {H : Hp} {Q : V → Hp → Prop} {E : XK} {b : Addr} {n c m : Int} (ev : args_ = [.ref b, .int c, .int m]) (hb : H b = some (.lst [.int n])) (c0 : 0 ≤ c) (c1 : c ≤ 1000) (m0 : 0 < m) (m1 : m ≤ 65536) (q : ∀ (H' : Hp) (l : Addr) (ns : List Int) (n' : Int), Exb b H H' → H' b = some (.lst [.int n']) → H l = none → H' l = some (.lst (ns.map V.int)) → (ns.length : Int) = c → (∀ x ∈ ns, 0 ≤ x ∧ x < m) → Q (.ref l) H') : sp_law_numbers  args_ H Q E := ⟨b, n, c, m, ev, hb, c0, c1, m0, m1, q⟩
local macro_rules | `(tactic| walk_at "ca1") => `(tactic| with_reducible (refine' Sg.i_law_numbers ?ev ?hb ?c0 ?c1 ?m0 ?m1 ?_; (case ev => (with_unfolding_all rfl)); (case hb => (with_unfolding_all walk_at "pr")); (case c0 => (with_unfolding_all walk_at "pr")); (case c1 => (with_unfolding_all walk_at "pr")); (case m0 => (with_unfolding_all walk_at "pr")); (case m1 => (with_unfolding_all walk_at "pr")); intros))

theorem ok_law_numbers (T : Txt K mg) : FnOk P w K mg base CX0 2 T.a_law_numbers T.fd_law_numbers ["box", "count", "bound"] sp_law_numbers := by
  refine T.F_law_numbers.ok sc_law_numbers (fun vs H Q E h => ?_) (fun cdv A outer s H vs Q E hr h => ?_)
  · obtain ⟨b, n, c, m, rfl, _⟩ := h
    rfl
  · refine ⟨_, (pss_cons (ps_set (i := 3) sc_law_numbers.nd rfl (Or.inl rfl) (pe_call (ok_law_take T) (hr.mono (by decide)) rfl T.m_law_take T.F_law_take.kp T.b_law_take .nil pass0 (pa_cons (pv 0) (pa_cons pe_int pa_nil))))
       (pss_cons (ps_set (i := 4) sc_law_numbers.nd rfl (Or.inl rfl) (pe_lst pa_nil))
       (pss_cons (ps_for PassesOwn.never rfl (pi_range1 rfl T.n_range (pa_cons (pv 1) pa_nil)) (pg_name (i := 5) sc_law_numbers.nd rfl (Or.inl rfl))
       (pss_cons (ps_set (i := 3) sc_law_numbers.nd rfl (Or.inl rfl) (pe_op op_mod (pe_callTy c_int (by rfl) T.n_int (by decide +kernel) (pa_cons (pe_op op_add (pe_op op_add (pe_op op_mul (pv 3) pe_int) (pe_op op_mul (pv 5) pe_int)) pe_int) pa_nil)) pe_int))
       (pss_one (ps_expr (pe_bm PySem.F.plainAttrs_list PySem.F.slot_list_append PySem.F.type_list_append mt_append (pv 4) (pa_cons (pe_op op_mod (pe_callTy c_int (by rfl) T.n_int (by decide +kernel) (pa_cons (pe_op op_fdiv (pv 3) pe_int) pa_nil)) (pv 2)) pa_nil))))))
       (pss_one (ps_ret (pv 4)))))), ?_⟩
    try dsimp only [cxOf, Cx.nox, Cx.wish]
    obtain ⟨b, n, c, m, rfl, hb, c0, c1, m0, m1, q⟩ := h
    walk_at "go"
    rename_i H1 d n1 e1 g1 d0 d1 l nl H2 s2 g2
    have hlb : H l = none := by
      cases e : H l with
      | none => rfl
      | some o =>
        by_cases c : l = b
        · rw [c, g1] at nl; cases nl
        · rw [e1 _ _ c e] at nl; cases nl
    have e2 : Exb b H H2 := e1.trans (.of s2)
    have g1' := s2 _ _ g1
    refine r_forR (fun i σ' H' => ∃ (v5 : Option V) (y : Int) (ns : List Int), σ' = [some (.ref b), some (.int c), some (.int m), some (.int y), some (.ref l), v5] ∧ Same H1 H' ∧ H' l = some (.lst (ns.map V.int)) ∧ ns.length = i ∧ ∀ x ∈ ns, 0 ≤ x ∧ x < m) ⟨_, _, [], rfl, s2, g2, rfl, fun x h => nomatch h⟩ ?_ ?_
    · rintro i σ' H' hi ⟨v5, y, ns, rfl, s3, g3, hl, hx⟩
      walk_at "go"
      rename_i z1 hz1 z10 z11 z hz z0 z1' H3 hH g4
      refine ⟨_, z1, ns ++ [z], rfl, Sg.Same.old s3 nl hH, ?_, ?_, ?_⟩
      · rw [g4, List.map_append]
        rfl
      · rw [List.length_append, hl]
        rfl
      · intro x hx'
        rcases List.mem_append.mp hx' with h | h
        · exact hx x h
        · rw [List.mem_singleton.mp h]
          exact ⟨z0, z1'⟩
    · rintro σ' H' ⟨v5, y, ns, rfl, s3, g3, hl, hx⟩
      walk_at "go"
      exact q _ _ _ _ (e1.trans (.of s3)) (s3 _ _ g1) hlb g3 (by omega) hx
def sp_law_used  : Sp := fun args_ H Q _ => ∃ (b : Addr) (n c : Int), args_ = [.ref b, .int c] ∧ H b = some (.lst [.int n]) ∧ 0 ≤ c ∧ c ≤ 1000 ∧ ∀ (H' : Hp) (l : Addr) (us : List Nat) (n' : Int), Exb b H H' → H' b = some (.lst [.int n']) → H l = none → H' l = some (.lst ((idsOf us).map V.int)) → us.Pairwise (· < ·) → (∀ u ∈ us, u < c.toNat) → Q (.ref l) H'
theorem i_law_used  {args_ : List V} {H : Hp} {Q : V → Hp → Prop} {E : XK} {b : Addr} {n c : Int} (ev : args_ = [.ref b, .int c]) (hb : H b = some (.lst [.int n])) (c0 : 0 ≤ c) (c1 : c ≤ 1000) (q : ∀ (H' : Hp) (l : Addr) (us : List Nat) (n' : Int), Exb b H H' → H' b = some (.lst [.int n']) → H l = none → H' l = some (.lst ((idsOf us).map V.int)) → us.Pairwise (· < ·) → (∀ u ∈ us, u < c.toNat) → Q (.ref l) H') : sp_law_used  args_ H Q E := ⟨b, n, c, ev, hb, c0, c1, q⟩
local macro_rules | `(tactic| walk_at "ca1") => `(tactic| with_reducible (refine' Sg.i_law_used ?ev ?hb ?c0 ?c1 ?_; (case ev => (with_unfolding_all rfl)); (case hb => (with_unfolding_all walk_at "pr")); (case c0 => (with_unfolding_all walk_at "pr")); (case c1 => (with_unfolding_all walk_at "pr")); intros))

theorem ok_law_used (T : Txt K mg) : FnOk P w K mg base CX0 2 T.a_law_used T.fd_law_used ["box", "last"] sp_law_used := by
  refine T.F_law_used.ok sc_law_used (fun vs H Q E h => ?_) (fun cdv A outer s H vs Q E hr h => ?_)
  · obtain ⟨b, n, c, rfl, _⟩ := h
    rfl
  · refine ⟨_, (pss_cons (ps_set (i := 2) sc_law_used.nd rfl (Or.inl rfl) (pe_op op_add pe_int (pe_call (ok_law_take T) (hr.mono (by decide)) rfl T.m_law_take T.F_law_take.kp T.b_law_take .nil pass0 (pa_cons (pv 0) (pa_cons pe_int pa_nil)))))
       (pss_cons (ps_set (i := 3) sc_law_used.nd rfl (Or.inl rfl) (pe_op op_add pe_int (pe_call (ok_law_take T) (hr.mono (by decide)) rfl T.m_law_take T.F_law_take.kp T.b_law_take .nil pass0 (pa_cons (pv 0) (pa_cons pe_int pa_nil)))))
       (pss_cons (ps_set (i := 4) sc_law_used.nd rfl (Or.inl rfl) (pe_lst pa_nil))
       (pss_cons (ps_while PassesOwn.never (pt_cmpR op_le (pv 3) (pv 1) (nomark _))
       (pss_cons (ps_expr (pe_bm PySem.F.plainAttrs_list PySem.F.slot_list_append PySem.F.type_list_append mt_append (pv 4) (pa_cons (pv 3) pa_nil)))
       (pss_one (ps_set (i := 3) sc_law_used.nd rfl (Or.inl rfl) (pe_op op_add (pe_op op_add (pv 3) pe_int) (pe_op op_mod (pe_callTy c_int (by rfl) T.n_int (by decide +kernel) (pa_cons (pe_op op_mul (pv 3) (pv 2)) pa_nil)) pe_int))))))
       (pss_one (ps_ret (pv 4))))))), ?_⟩
    try dsimp only [cxOf, Cx.nox, Cx.wish]
    obtain ⟨b, n, c, rfl, hb, c0, c1, q⟩ := h
    walk_at "go"
    rename_i H1 d n1 e1 g1 d0 d1 H2 e n2 e2 g2 x0 x1 l nl H3 s3 g3
    have e12 : Exb b H H2 := e1.trans e2
    have hlb : H l = none := by
      cases e : H l with
      | none => rfl
      | some o =>
        by_cases c : l = b
        · rw [c, g2] at nl; cases nl
        · rw [e12 _ _ c e] at nl; cases nl
    refine r_while (fun m σ' H' => ∃ (y : Int) (us : List Nat), σ' = [some (.ref b), some (.int c), some (.int (1 + d)), some (.int y), some (.ref l)] ∧ Same H2 H' ∧ H' l = some (.lst ((idsOf us).map V.int)) ∧ us.Pairwise (· < ·) ∧ (∀ u ∈ us, u < c.toNat ∧ (u : Int) + 1 < y) ∧ 1 ≤ y ∧ (m : Int) = max 0 (c + 1 - y) ∧ (us.length : Int) < y) (c + 1 - (1 + e)).toNat ?_ ?_
    · exact ⟨1 + e, [], rfl, s3, g3, .nil, (fun u h => nomatch h), by omega, by omega, by show (0 : Int) < _; omega⟩
    · rintro m σ' H' ⟨y, us, rfl, s4, g4, h3, h4, y1, hm, hl⟩
      walk_at "go"
      refine r_ite (fun hc => ?_) (fun hc => ?_)
      · have g4b := s4 _ _ g2
        refine ⟨_, fun _ _ h => h, ?_⟩
        walk_at "go"
        refine r_app g4 (by rw [List.length_map, idsOf_len, sz]; omega) ?_
        generalize hH : upd _ _ _ = H4
        have g5 := Sg.at_new hH
        have s5 : Same H2 H4 := Sg.Same.old s4 nl hH
        walk_at "go"
        rename_i z hz z0 z1
        refine ⟨(c + 1 - (y + 1 + z)).toNat, by omega, y + 1 + z, us ++ [(y - 1).toNat], rfl, s5, ?_, ?_, ?_, by omega, by omega, ?_⟩
        · rw [g5]
          unfold idsOf
          rw [List.map_append, List.map_append, show [(y - 1).toNat].map (fun p : Nat => (p : Int) + 1) = [y] from by
            show [(((y - 1).toNat : Nat) : Int) + 1] = [y]
            rw [show (((y - 1).toNat : Nat) : Int) + 1 = y by omega]]
          rfl
        · refine List.pairwise_append.mpr ⟨h3, List.pairwise_singleton _ _, fun u hu v hv => ?_⟩
          rw [List.mem_singleton.mp hv]
          have := (h4 u hu).2
          omega
        · intro u hu
          rcases List.mem_append.mp hu with h | h
          · have := h4 u h
            omega
          · rw [List.mem_singleton.mp h]
            omega
        · rw [List.length_append]
          show ((us.length + 1 : Nat) : Int) < _
          omega
      · walk_at "go"
        exact q _ _ _ _ (e12.trans (.of s4)) (s4 _ _ g2) hlb g4 h3 fun u hu => (h4 u hu).1
theorem free_of {b x : Addr} {H H' : Hp} {o : HO} (e : Exb b H H') (hb : H b = some o) (hb' : H' b ≠ none) (n : H' x = none) : H x = none ∧ x ≠ b := by
  have c : x ≠ b := fun z => hb' (z ▸ n)
  refine ⟨?_, c⟩
  cases h : H x with
  | none => rfl
  | some u => rw [e _ _ c h] at n; cases n
def sp_law_block (K : PySem.W.Frag) (C : Addr) : Sp := fun args_ H Q _ => ∃ (p b : Addr) (n : Int) (L : Lay), args_ = [.ref p, .ref b] ∧ LayAt C L H p ∧ LayS L ∧ H b = some (.lst [.int n]) ∧ ∀ (H' : Hp) (v : V) (m : BM), Exb b H H' → BlkAt K H' v (some m) → GoodM L m → Q v H'
theorem i_law_block {K : PySem.W.Frag} {C : Addr} {args_ : List V} {H : Hp} {Q : V → Hp → Prop} {E : XK} {p b : Addr} {n : Int} {L : Lay} (ev : args_ = [.ref p, .ref b]) (hL : LayAt C L H p) (hS : LayS L) (hb : H b = some (.lst [.int n])) (q : ∀ (H' : Hp) (v : V) (m : BM), Exb b H H' → BlkAt K H' v (some m) → GoodM L m → Q v H') : sp_law_block K C args_ H Q E := ⟨p, b, n, L, ev, hL, hS, hb, q⟩
local macro_rules | `(tactic| walk_at "ca1") => `(tactic| with_reducible (refine' Sg.i_law_block ?ev ?hL ?hS ?hb ?_; (case ev => (with_unfolding_all rfl)); (case hL => (with_unfolding_all walk_at "pr")); (case hS => (with_unfolding_all walk_at "pr")); (case hb => (with_unfolding_all walk_at "pr")); intros))

theorem ok_law_block (T : Txt K mg) : FnOk P w K mg base CX0 3 T.a_law_block T.fd_law_block ["layout", "box"] (sp_law_block K T.A_Layout) := by
  refine T.F_law_block.ok sc_law_block (fun vs H Q E h => ?_) (fun cdv A outer s H vs Q E hr h => ?_)
  · obtain ⟨p, b, n, L, rfl, _⟩ := h
    rfl
  · refine ⟨_, (pss_cons (ps_set (i := 2) sc_law_block.nd rfl (Or.inl rfl) (pe_op op_add pe_int (pe_call (ok_law_take T) (hr.mono (by decide)) rfl T.m_law_take T.F_law_take.kp T.b_law_take .nil pass0 (pa_cons (pv 1) (pa_cons pe_int pa_nil)))))
       (pss_cons (ps_set (i := 3) sc_law_block.nd rfl (Or.inl rfl) (pe_op op_sub (pe_ix ix_list (pe_lst (pa_cons pe_int (pa_cons pe_int (pa_cons (pe_op op_pow pe_int pe_int) (pa_cons (pe_op op_sub (pe_op op_pow pe_int pe_int) pe_int) pa_nil))))) (pe_call (ok_law_take T) (hr.mono (by decide)) rfl T.m_law_take T.F_law_take.kp T.b_law_take .nil pass0 (pa_cons (pv 1) (pa_cons pe_int pa_nil))) (fun _ _ => rfl)) (pe_call (ok_law_take T) (hr.mono (by decide)) rfl T.m_law_take T.F_law_take.kp T.b_law_take .nil pass0 (pa_cons (pv 1) (pa_cons pe_int pa_nil)))))
       (pss_cons (ps_set (i := 4) sc_law_block.nd rfl (Or.inl rfl) (pe_ix ix_list (pe_lst (pa_cons pe_int (pa_cons pe_int (pa_cons pe_int (pa_cons pe_int pa_nil))))) (pe_call (ok_law_take T) (hr.mono (by decide)) rfl T.m_law_take T.F_law_take.kp T.b_law_take .nil pass0 (pa_cons (pv 1) (pa_cons pe_int pa_nil))) (fun _ _ => rfl)))
       (pss_cons (ps_set (i := 5) sc_law_block.nd rfl (Or.inl rfl) (pe_op op_sub (pe_fld (pv 0) rfl) pe_int))
       (pss_cons (ps_if (pt_cmpR op_eq (pv 2) pe_int (nomark _))
       (pss_cons (ps_set (i := 6) sc_law_block.nd rfl (Or.inl rfl) (pe_call (ok_law_numbers T) (hr.mono (by decide)) rfl T.m_law_numbers T.F_law_numbers.kp T.b_law_numbers .nil pass0 (pa_cons (pv 1) (pa_cons (pe_call (ok_law_take T) (hr.mono (by decide)) rfl T.m_law_take T.F_law_take.kp T.b_law_take .nil pass0 (pa_cons (pv 1) (pa_cons (pe_op op_add (pv 5) pe_int) pa_nil))) (pa_cons pe_int pa_nil)))))
       (pss_cons (ps_set (i := 7) sc_law_block.nd rfl (Or.inl rfl) (pe_call (ok_law_used T) (hr.mono (by decide)) rfl T.m_law_used T.F_law_used.kp T.b_law_used .nil pass0 (pa_cons (pv 1) (pa_cons (pe_op op_mul (pe_op op_sub (pe_fld (pv 0) rfl) pe_int) (pv 5)) pa_nil))))
       (pss_one (ps_ret (pe_tup (pa_cons (pv 2) (pa_cons (pv 3) (pa_cons (pv 4) (pa_cons (pe_tup (pa_cons (pe_callTy c_tuple (by rfl) T.n_tuple (by decide +kernel) (pa_cons (pv 6) pa_nil)) (pa_cons (pe_callTy c_tuple (by rfl) T.n_tuple (by decide +kernel) (pa_cons (pv 7) pa_nil)) (pa_cons (pe_call (ok_law_take T) (hr.mono (by decide)) rfl T.m_law_take T.F_law_take.kp T.b_law_take .nil pass0 (pa_cons (pv 1) (pa_cons pe_int pa_nil))) pa_nil)))) pa_nil)))))))))
       pss_nil)
       (pss_cons (ps_if (pt_cmpR op_eq (pv 2) pe_int (nomark _))
       (pss_one (ps_ret (pe_tup (pa_cons (pv 2) (pa_cons (pv 3) (pa_cons (pv 4) (pa_cons (pe_callTy c_tuple (by rfl) T.n_tuple (by decide +kernel) (pa_cons (pe_call (ok_law_numbers T) (hr.mono (by decide)) rfl T.m_law_numbers T.F_law_numbers.kp T.b_law_numbers .nil pass0 (pa_cons (pv 1) (pa_cons (pe_call (ok_law_take T) (hr.mono (by decide)) rfl T.m_law_take T.F_law_take.kp T.b_law_take .nil pass0 (pa_cons (pv 1) (pa_cons (pe_op op_add (pv 5) pe_int) pa_nil))) (pa_cons pe_int pa_nil)))) pa_nil)) pa_nil)))))))
       pss_nil)
       (pss_cons (ps_if (pt_cmpR op_eq (pv 2) pe_int (nomark _))
       (pss_one (ps_ret (pe_tup (pa_cons (pv 2) (pa_cons (pv 3) (pa_cons (pv 4) (pa_cons (pe_callTy c_tuple (by rfl) T.n_tuple (by decide +kernel) (pa_cons (pe_call (ok_law_numbers T) (hr.mono (by decide)) rfl T.m_law_numbers T.F_law_numbers.kp T.b_law_numbers .nil pass0 (pa_cons (pv 1) (pa_cons (pe_fld (pv 0) rfl) (pa_cons pe_int pa_nil)))) pa_nil)) pa_nil)))))))
       pss_nil)
       (pss_one (ps_ret (pe_tup (pa_cons (pv 2) (pa_cons (pv 3) (pa_cons (pv 4) (pa_cons (pe_callTy c_tuple (by rfl) T.n_tuple (by decide +kernel) (pa_cons (pe_call (ok_law_numbers T) (hr.mono (by decide)) rfl T.m_law_numbers T.F_law_numbers.kp T.b_law_numbers .nil pass0 (pa_cons (pv 1) (pa_cons (pe_op op_fdiv (pe_fld (pv 0) rfl) pe_int) (pa_cons pe_int pa_nil)))) pa_nil)) pa_nil)))))))))))))), ?_⟩
    try dsimp only [cxOf, Cx.nox, Cx.wish]
    obtain ⟨p, b, n, L, rfl, hL, hS, hb, q⟩ := h
    have cl_Layout := T.cl_Layout
    have na_Layout_block_size := T.na_Layout_block_size
    have na_Layout_segment_blocks := T.na_Layout_segment_blocks
    have na_Layout_segments := T.na_Layout_segments
    have z1 := hS.c.z1
    have z0 := hS.c.z0
    have b0 := hS.c.b0
    have b1 := hS.c.b1
    have f0 := hS.c.f0
    have fz := hS.c.fz
    have p0 := hS.c.pay
    have p0' : L.blk - 1 = L.pay := p0.symm
    have las := hS.las
    have l0 := hS.c.l0
    have l1 := hS.c.l1
    walk_at "go"
    rename_i H1 d1 n1 e1 g1 d10 d11 l2 nl2 H2 s2 g2 H3 d3 n3 e3 g3 d30 d31
    have nb : l2 ≠ b := fun z => by rw [z, g1] at nl2; cases nl2
    refine r_ixl (.of (e3 _ _ nb g2)) (at_ints (ts := [1, 5, 1099511627776, 281474976710655]) d30 (by show d3 < 4; omega)) ?_
    walk_at "go"
    rename_i H4 d4 n4 e4 g4 d40 d41 l5 nl5 H5 s5 g5 H6 d6 n6 e6 g6 d60 d61
    have nb5 : l5 ≠ b := fun z => by rw [z, g4] at nl5; cases nl5
    refine r_ixl (.of (e6 _ _ nb5 g5)) (at_ints (ts := [0, 1, 15, 65535]) d60 (by show d6 < 4; omega)) ?_
    have sq : 0 ≤ ([1, 5, 1099511627776, 281474976710655] : List Int).getD d3.toNat 0 - d4 ∧ ([1, 5, 1099511627776, 281474976710655] : List Int).getD d3.toNat 0 - d4 < 281474976710656 := by
      rcases (by omega : d3 = 0 ∨ d3 = 1 ∨ d3 = 2 ∨ d3 = 3) with rfl | rfl | rfl | rfl
      · show 0 ≤ (1 : Int) - d4 ∧ (1 : Int) - d4 < 281474976710656; omega
      · show 0 ≤ (5 : Int) - d4 ∧ (5 : Int) - d4 < 281474976710656; omega
      · show 0 ≤ (1099511627776 : Int) - d4 ∧ (1099511627776 : Int) - d4 < 281474976710656; omega
      · show 0 ≤ (281474976710655 : Int) - d4 ∧ (281474976710655 : Int) - d4 < 281474976710656; omega
    have rk : 0 ≤ ([0, 1, 15, 65535] : List Int).getD d6.toNat 0 ∧ ([0, 1, 15, 65535] : List Int).getD d6.toNat 0 < 65536 := by
      rcases (by omega : d6 = 0 ∨ d6 = 1 ∨ d6 = 2 ∨ d6 = 3) with rfl | rfl | rfl | rfl
      · exact ⟨by decide, by decide⟩
      · exact ⟨by decide, by decide⟩
      · exact ⟨by decide, by decide⟩
      · exact ⟨by decide, by decide⟩
    generalize ([1, 5, 1099511627776, 281474976710655] : List Int).getD d3.toNat 0 - d4 = sqv at sq
    generalize ([0, 1, 15, 65535] : List Int).getD d6.toNat 0 = rkv at rk
    have E6 : Exb b H H6 := e1.trans ((Exb.of s2).trans (e3.trans (e4.trans ((Exb.of s5).trans e6))))
    have hL6 : LayAt T.A_Layout L H6 p := E6.lay hb hL
    clear hL e1 g1 l2 nl2 s2 g2 e3 g3 nb e4 g4 l5 nl5 s5 g5 e6 nb5
    obtain ⟨dx, fs, hp, F⟩ := id hL6
    have lk1 := F.seg
    have lk2 := F.blk
    have lk3 := F.size
    rcases (by omega : d1 = 0 ∨ d1 = 1 ∨ d1 = 2 ∨ 3 ≤ d1) with z | z | z | z
    · subst z
      walk_at "go"
      rw [p0']
      walk_at "go"
      rename_i H7 d7 n7 e7 g7 d70 d71 H8 l8 ns n8 e8 g8 f8 h8 hl hx
      have hL8 := e8.lay g7 (e7.lay g6 hL6)
      obtain ⟨dx8, fs8, hp8, F8⟩ := hL8
      have lk8 := F8.seg
      walk_at "go"
      rename_i H9 l9 us n9 e9 g9 f9 h9 hu1 hu2
      rw [las] at hu2
      have nb8 : l8 ≠ b := fun z => by rw [z, g7] at f8; cases f8
      have h8' := e9 _ _ nb8 h8
      walk_at "go"
      rename_i t1 m1 K1 s1 o1 t2 m2 K2 s2 o2 K3 d10 n10 e10 k10 d100 d101 t3 m3 K4 s3 o3 t4 m4 K5 s4 o4
      have E5 : Exb b H K5 := E6.trans (e7.trans (e8.trans (e9.trans ((Exb.of (s1.trans s2)).trans (e10.trans (.of (s3.trans s4)))))))
      have b9 : K2 b = some (.lst [.int n9]) := s2 _ _ (s1 _ _ g9)
      have q1 : SqT K K5 t1 (ns.map V.int) := Same.tup s4 (Same.tup s3 (e10.tup b9 (.of (s2 _ _ o1))))
      have q2 : SqT K K5 t2 ((idsOf us).map V.int) := Same.tup s4 (Same.tup s3 (e10.tup b9 (.of o2)))
      exact q K5 (.ref t4) ⟨sqv, rkv, .cm ns us d10⟩ E5 ⟨t4, t3, rfl, .of o4, t1, t2, .of (s4 _ _ o3), q1, q2⟩ ⟨sq.1, sq.2, rk.1, rk.2, by omega, hx, hu1, hu2, d100, by omega⟩
    · subst z
      walk_at "go"
      rename_i H7 d7 n7 e7 g7 d70 d71 H8 l8 ns n8 e8 g8 f8 h8 hl hx p9 n9 H9 s9 g9 p10 n10 H10 s10 g10
      exact q H10 (.ref p10) ⟨sqv, rkv, .ot 2 ns⟩ (E6.trans (e7.trans (e8.trans (.of (s9.trans s10))))) ⟨p10, p9, rfl, .of g10, show SqT K H10 p9 _ from .of (s10 _ _ g9)⟩ ⟨sq.1, sq.2, rk.1, rk.2, by decide, by decide, hx, fun _ => by omega, fun z => absurd z (by decide), fun z => absurd z (by decide)⟩
    · subst z
      walk_at "go"
      rename_i H8 l8 ns n8 e8 g8 f8 h8 hl hx p9 n9 H9 s9 g9 p10 n10 H10 s10 g10
      exact q H10 (.ref p10) ⟨sqv, rkv, .ot 3 ns⟩ (E6.trans (e8.trans (.of (s9.trans s10)))) ⟨p10, p9, rfl, .of g10, show SqT K H10 p9 _ from .of (s10 _ _ g9)⟩ ⟨sq.1, sq.2, rk.1, rk.2, by decide, by decide, fun x h => by have := hx x h; omega, fun z => absurd z (by decide), fun _ => ⟨hl, fun x h => (hx x h).2⟩, fun z => absurd z (by decide)⟩
    · walk_at "go"
      rename_i H8 l8 ns n8 e8 g8 f8 h8 hl hx p9 n9 H9 s9 g9 p10 n10 H10 s10 g10
      exact q H10 (.ref p10) ⟨sqv, rkv, .ot (1 + d1) ns⟩ (E6.trans (e8.trans (.of (s9.trans s10)))) ⟨p10, p9, rfl, .of g10, show SqT K H10 p9 _ from .of (s10 _ _ g9)⟩ ⟨sq.1, sq.2, rk.1, rk.2, by omega, by omega, hx, fun z => by omega, fun z => by omega, fun _ => by omega⟩

/-! ### the law asks -/
theorem tyx_tup {K : PySem.W.Frag} {H : Hp} {a : Addr} {xs : List V} (h : SqT K H a xs) : TyX K H (.ref a) (.type "tuple") := by
  rcases h with (h | ⟨o, h⟩) | ⟨o, its, n, h1, h2, _⟩
  · exact .base (.tup h)
  · exact .fTuple h
  · exact .kTuple h1 h2
theorem tyx_lst {K : PySem.W.Frag} {H : Hp} {a : Addr} {xs : List V} (h : SqL K H a xs) : TyX K H (.ref a) (.type "list") := by
  rcases h with (h | ⟨o, h⟩) | ⟨o, its, n, h1, h2, _⟩
  · exact .base (.lst h)
  · exact .base (.frz h)
  · exact .kList h1 h2
local macro_rules | `(tactic| walk_at "tyx") => `(tactic| first | (refine' Sg.tyx_tup ?ha; (case ha => walk_at "hp")) | (refine' Sg.tyx_lst ?ha; (case ha => walk_at "hp")))
theorem BodyAt.tups {K : PySem.W.Frag} {H : Hp} {v : Addr} : ∀ {b : BB}, BodyAt K H v b → ∃ xs, SqT K H v xs
  | .cm _ _ _, ⟨_, _, h, _⟩ => ⟨_, h⟩
  | .ot _ _, h => ⟨_, h⟩
def pdB : BB → PyData
  | .cm ids us a => .tuple [.tuple (ids.map PyData.int), .tuple ((idsOf us).map PyData.int), .int a]
  | .ot _ ns => .tuple (ns.map PyData.int)
def pdM (m : BM) : PyData := .tuple [.int (kindB m.b), .int m.seq, .int m.rank, pdB m.b]
theorem BodyAt.dp {K : PySem.W.Frag} {H : Hp} {v : Addr} : ∀ {b : BB}, BodyAt K H v b → Dp K H (.ref v) (pdB b)
  | .cm _ _ _, ⟨_, _, h, h2, h3⟩ => .tup h (.cons (.tup h2 (DpAll.ints _)) (.cons (.tup h3 (DpAll.ints _)) (.cons (.int _) .nil)))
  | .ot _ _, h => .tup h (DpAll.ints _)
theorem fl_pdB : ∀ b : BB, Fl 2 (pdB b)
  | .cm ids us a => Fl.tup (Fl.cons (Fl.ints ids) (Fl.cons (Fl.ints (idsOf us)) (Fl.cons (Fl.int _ _) Fl.nil)))
  | .ot _ ns => (Fl.ints ns).mono (by decide)
theorem fl_pdM (m : BM) : Fl 3 (pdM m) := Fl.tup (Fl.cons (Fl.int _ _) (Fl.cons (Fl.int _ _) (Fl.cons (Fl.int _ _) (Fl.cons (fl_pdB m.b) Fl.nil))))
theorem r_eqM {K : PySem.W.Frag} {H : Hp} {v u : V} {m : BM} {Q : V → Hp → Prop} (hv : BlkAt K H v (some m)) (hu : BlkAt K H u (some m)) (q : Q (.bl true) H) : rEqD K v u H Q := by
  obtain ⟨t, b, rfl, h1, h2⟩ := hv
  obtain ⟨t', b', rfl, h1', h2'⟩ := hu
  have d1 : Dp K H (.ref t) (pdM m) := .tup h1 (.cons (.int _) (.cons (.int _) (.cons (.int _) (.cons h2.dp .nil))))
  have d2 : Dp K H (.ref t') (pdM m) := .tup h1' (.cons (.int _) (.cons (.int _) (.cons (.int _) (.cons h2'.dp .nil))))
  refine r_eqd d1 d2 (fl_pdM m).shaped (fl_pdM m).shaped ?_
  rw [(fl_pdM m).self]
  exact q
/-! octets are octets -/
abbrev Byt (x : Int) : Prop := 0 ≤ x ∧ x < 256
theorem byt_app {xs ys : List Int} (h : ∀ x ∈ xs, Byt x) (h' : ∀ x ∈ ys, Byt x) : ∀ x ∈ xs ++ ys, Byt x := fun x hx => (List.mem_append.mp hx).elim (h x) (h' x)
theorem byt_fil {xs : List Int} {c : Nat} (h : ∀ x ∈ xs, Byt x) : ∀ x ∈ filI xs c, Byt x := fun x hx => by
  unfold filI at hx
  refine byt_app h (fun y hy => ?_) x (List.mem_of_mem_take hx)
  rw [List.eq_of_mem_replicate hy]
  exact ⟨by decide, by decide⟩
theorem byt_pairs : ∀ ns, ∀ x ∈ pairsO ns, Byt x
  | [], x, h => nomatch h
  | n :: r, x, h => byt_app (octN_byte 2 n) (byt_pairs r) x h
theorem byt_head {k n : Int} (h : Byt k) : ∀ x ∈ headO k n, Byt x := byt_app (fun x hx => by
  simp only [List.mem_cons, List.not_mem_nil, or_false] at hx
  rcases hx with rfl | rfl | rfl | rfl | rfl
  · exact ⟨by decide, by decide⟩
  · exact ⟨by decide, by decide⟩
  · exact ⟨by decide, by decide⟩
  · exact ⟨by decide, by decide⟩
  · exact h) (octN_byte 2 n)
theorem bv_byt (S : Nat → Bool) (j : Nat) : Byt (bv S j) := by
  have h0 := b1_or (S (8 * j))
  have h1 := b1_or (S (8 * j + 1))
  have h2 := b1_or (S (8 * j + 2))
  have h3 := b1_or (S (8 * j + 3))
  have h4 := b1_or (S (8 * j + 4))
  have h5 := b1_or (S (8 * j + 5))
  have h6 := b1_or (S (8 * j + 6))
  have h7 := b1_or (S (8 * j + 7))
  unfold bv Byt
  omega
theorem byt_bits {last : Nat} {us : List Nat} (hp : us.Pairwise (· < ·)) (hu : ∀ u ∈ us, u < last) : ∀ x ∈ bitsO last us, Byt x := fun x hx => by
  obtain ⟨j, hj, rfl⟩ := List.getElem_of_mem hx
  have hl := bitsO_len last us
  have e := fold_bv us (List.replicate ((last + 7) / 8) 0) (fun _ => false) ((last + 7) / 8) (by rw [List.length_replicate]) (fun j hj => by
    rw [List.getD_eq_getElem?_getD, List.getElem?_replicate, if_pos hj]; rfl) hp (fun u hu' => ⟨by have := hu u hu'; omega, rfl⟩) j (by omega)
  rw [List.getD_eq_getElem?_getD, List.getElem?_eq_getElem (show j < (us.foldl addBit (List.replicate ((last + 7) / 8) 0)).length from hj)] at e
  rw [show (bitsO last us)[j] = bv (fun q => false || decide (q ∈ us)) j from e]
  exact bv_byt _ _
theorem byt_body {L : Lay} : ∀ {b : BB}, GoodB L b → ∀ x ∈ bodyO L b, Byt x
  | .cm ids us a, ⟨h1, h2, h3, h4, h5, h6⟩ => byt_app (byt_app (byt_fil (byt_app (byt_head ⟨by decide, by decide⟩) fun x hx => by rw [List.mem_singleton.mp hx]; exact ⟨h5, by omega⟩)) (byt_fil (byt_pairs ids))) (byt_bits h3 h4)
  | .ot k ns, ⟨h1, h2, h3, h4, h5, h6⟩ => by
    show ∀ x ∈ (if k = 2 then filI (headO 2 ns.length) 16 ++ pairsO ns else if k = 3 then ns else pairsO ns), Byt x
    by_cases k2 : k = 2
    · rw [if_pos k2]
      exact byt_app (byt_fil (byt_head ⟨by decide, by decide⟩)) (byt_pairs ns)
    by_cases k3 : k = 3
    · rw [if_neg k2, if_pos k3]
      exact fun x hx => ⟨(h3 x hx).1, (h5 k3).2 x hx⟩
    · rw [if_neg k2, if_neg k3]
      exact byt_pairs ns
theorem kind_in {L : Lay} : ∀ {b : BB}, GoodB L b → 1 ≤ kindB b ∧ kindB b ≤ 5
  | .cm _ _ _, _ => ⟨by show (1 : Int) ≤ 1; decide, by show (1 : Int) ≤ 5; decide⟩
  | .ot k _, h => ⟨by show 1 ≤ k; have := h.1; omega, h.2.1⟩
theorem byt_blk {L : Lay} : ∀ {o : Option BM}, (∀ m, o = some m → GoodM L m) → ∀ x ∈ blkO L o, Byt x
  | none, _, x, hx => by rw [List.eq_of_mem_replicate hx]; exact ⟨by decide, by decide⟩
  | some m, h, x, hx => by
    obtain ⟨_, _, _, _, hg⟩ := h m rfl
    have k := kind_in hg
    exact byt_app (byt_fil (byt_app (byt_app (fun y hy => by rw [List.mem_singleton.mp hy]; exact ⟨by omega, by omega⟩) (octN_byte 6 m.seq)) (octN_byte 2 m.rank))) (byt_fil (byt_body hg)) x hx
theorem readB_all {L : Lay} (hL : LayS L) : ∀ {o : Option BM}, (∀ m, o = some m → GoodM L m) → readB L (blkO L o) = o
  | none, _ => by
    have z0 := hL.c.z0
    have e : (blkO L none).getD 0 0 = 0 := by
      show (List.replicate (16 + L.size).toNat (0 : Int)).getD 0 0 = 0
      rw [List.getD_eq_getElem?_getD, List.getElem?_replicate]
      split <;> rfl
    unfold readB
    rw [e]
    rfl
  | some m, h => readB_blk hL (h m rfl)
theorem dam_no {L : Lay} (hL : LayS L) {o : Option BM} (h : ∀ m, o = some m → GoodM L m) : ((blkO L o).any (· != 0) && (readB L (blkO L o)).isNone) = false := by
  rw [readB_all hL h]
  cases o with
  | some m => rw [Option.isNone_some, Bool.and_false]
  | none =>
    rw [Option.isNone_none, Bool.and_true, List.any_eq_false]
    intro x hx
    rw [List.eq_of_mem_replicate hx]
    decide
def sp_law_is_number  : Sp := fun args_ H Q _ => ∃ (i : Int), args_ = [.int i] ∧ Q (.bl true) H
theorem i_law_is_number  {args_ : List V} {H : Hp} {Q : V → Hp → Prop} {E : XK} {i : Int} (ev : args_ = [.int i]) (q : Q (.bl true) H) : sp_law_is_number  args_ H Q E := ⟨i, ev, q⟩
local macro_rules | `(tactic| walk_at "ca1") => `(tactic| with_reducible (refine' Sg.i_law_is_number ?ev ?_; (case ev => (with_unfolding_all rfl))))

theorem ok_law_is_number (T : Txt K mg) : FnOk P w K mg base CX0 1 T.a_law_is_number T.fd_law_is_number ["actual"] sp_law_is_number := by
  refine T.F_law_is_number.ok sc_law_is_number (fun vs H Q E h => ?_) (fun cdv A outer s H vs Q E hr h => ?_)
  · obtain ⟨i, rfl, _⟩ := h
    rfl
  · refine ⟨_, (pss_one (ps_ret (pe_and (pe_callB (call_isi) (by rfl) T.n_isinstance (by decide +kernel) (pa_cons (pv 0) (pa_cons (pe_bltn (v := .ty "int") (by rfl) T.n_int (by decide +kernel) rfl) pa_nil))) (pe_one (pe_not (pe_callB (call_isi) (by rfl) T.n_isinstance (by decide +kernel) (pa_cons (pv 0) (pa_cons (pe_bltn (v := .ty "bool") (by rfl) T.n_bool (by decide +kernel) rfl) pa_nil)))))))), ?_⟩
    try dsimp only [cxOf, Cx.nox, Cx.wish]
    obtain ⟨i, rfl, q⟩ := h
    walk_at "go"
    exact q
def sp_law_is_row (K : PySem.W.Frag) : Sp := fun args_ H Q _ => ∃ (a : Addr) (ns : List Int), args_ = [.ref a] ∧ SqT K H a (ns.map V.int) ∧ Q (.bl true) H
theorem i_law_is_row {K : PySem.W.Frag} {args_ : List V} {H : Hp} {Q : V → Hp → Prop} {E : XK} {a : Addr} {ns : List Int} (ev : args_ = [.ref a]) (h : SqT K H a (ns.map V.int)) (q : Q (.bl true) H) : sp_law_is_row K args_ H Q E := ⟨a, ns, ev, h, q⟩
local macro_rules | `(tactic| walk_at "ca1") => `(tactic| with_reducible (refine' Sg.i_law_is_row ?ev ?h ?_; (case ev => (with_unfolding_all rfl)); (case h => (with_unfolding_all walk_at "pr"))))

theorem ok_law_is_row (T : Txt K mg) : FnOk P w K mg base CX0 2 T.a_law_is_row T.fd_law_is_row ["actual"] (sp_law_is_row K) := by
  refine T.F_law_is_row.ok sc_law_is_row (fun vs H Q E h => ?_) (fun cdv A outer s H vs Q E hr h => ?_)
  · obtain ⟨a, ns, rfl, _⟩ := h
    rfl
  · refine ⟨_, (pss_cons (ps_if (pt_not (pt_val (pe_callB (call_isi) (by rfl) T.n_isinstance (by decide +kernel) (pa_cons (pv 0) (pa_cons (pe_bltn (v := .ty "tuple") (by rfl) T.n_tuple (by decide +kernel) rfl) pa_nil)))))
       (pss_one (ps_ret pe_bl))
       pss_nil)
       (pss_cons (ps_for PassesOwn.never rfl (pi_tup (pv 0)) (pg_name (i := 1) sc_law_is_row.nd rfl (Or.inl rfl))
       (pss_one (ps_if (pt_not (pt_val (pe_call (ok_law_is_number T) (hr.mono (by decide)) rfl T.m_law_is_number T.F_law_is_number.kp T.b_law_is_number .nil pass0 (pa_cons (pv 1) pa_nil))))
       (pss_one (ps_ret pe_bl))
       pss_nil)))
       (pss_one (ps_ret pe_bl)))), ?_⟩
    try dsimp only [cxOf, Cx.nox, Cx.wish]
    obtain ⟨a, ns, rfl, h, q⟩ := h
    walk_at "go"
    refine r_forT (xs := ns.map V.int) (fun i σ' H' => ∃ (v1 : Option V), σ' = [some (.ref a), v1] ∧ H = H') ⟨_, rfl, rfl⟩ (fun i σ' H' _ ⟨_, _, e⟩ => e ▸ h) ?_ ?_
    · rintro i x σ' H' hx ⟨v1, rfl, rfl⟩
      rw [List.getElem?_map] at hx
      obtain ⟨z, hz, rfl⟩ := Option.map_eq_some_iff.mp hx
      walk_at "go"
      exact ⟨_, rfl, rfl⟩
    · rintro σ' H' ⟨v1, rfl, rfl⟩
      walk_at "go"
      exact q
def sp_law_is_block (K : PySem.W.Frag) : Sp := fun args_ H Q _ => ∃ (v : V) (L : Lay) (m : BM), args_ = [v] ∧ BlkAt K H v (some m) ∧ GoodM L m ∧ ∀ H', Same H H' → Q (.bl true) H'
theorem i_law_is_block {K : PySem.W.Frag} {args_ : List V} {H : Hp} {Q : V → Hp → Prop} {E : XK} {v : V} {L : Lay} {m : BM} (ev : args_ = [v]) (h : BlkAt K H v (some m)) (hg : GoodM L m) (q : ∀ H', Same H H' → Q (.bl true) H') : sp_law_is_block K args_ H Q E := ⟨v, L, m, ev, h, hg, q⟩
local macro_rules | `(tactic| walk_at "ca1") => `(tactic| with_reducible (refine' Sg.i_law_is_block ?ev ?h ?hg ?_; (case ev => (with_unfolding_all rfl)); (case h => (with_unfolding_all walk_at "pr")); (case hg => (with_unfolding_all walk_at "pr")); intros))

theorem ok_law_is_block (T : Txt K mg) : FnOk P w K mg base CX0 3 T.a_law_is_block T.fd_law_is_block ["actual"] (sp_law_is_block K) := by
  refine T.F_law_is_block.ok sc_law_is_block (fun vs H Q E h => ?_) (fun cdv A outer s H vs Q E hr h => ?_)
  · obtain ⟨v, L, m, rfl, _⟩ := h
    rfl
  · refine ⟨_, (C8.pss_cut (ps_if (PW.pt (pw_or (pt_not (pt_val (pe_callB (call_isi) (by rfl) T.n_isinstance (by decide +kernel) (pa_cons (pv 0) (pa_cons (pe_bltn (v := .ty "tuple") (by rfl) T.n_tuple (by decide +kernel) rfl) pa_nil))))) (pw_or1 (pt_cmpR op_ne (pe_callB (c_len) (by rfl) T.n_len (by decide +kernel) (pa_cons (pv 0) pa_nil)) pe_int (nomark _)))))
       (pss_one (ps_ret pe_bl))
       pss_nil)
       (C8.pss_cut (ps_if (PW.pt (pw_or (pt_not (pt_val (pe_call (ok_law_is_row T) (hr.mono (by decide)) rfl T.m_law_is_row T.F_law_is_row.kp T.b_law_is_row .nil pass0 (pa_cons (pe_slice sl_tup (pv 0) po_none (po_some pe_int)) pa_nil)))) (pw_or1 (pt_not (pt_val (pe_callB (call_isi) (by rfl) T.n_isinstance (by decide +kernel) (pa_cons (pe_ix ix_tup (pv 0) pe_int (fun _ _ => rfl)) (pa_cons (pe_bltn (v := .ty "tuple") (by rfl) T.n_tuple (by decide +kernel) rfl) pa_nil))))))))
       (pss_one (ps_ret pe_bl))
       pss_nil)
       (pss_cons (ps_if (pt_cmpR op_ne (pe_ix ix_tup (pv 0) pe_int (fun _ _ => rfl)) pe_int (nomark _))
       (pss_one (ps_ret (pe_call (ok_law_is_row T) (hr.mono (by decide)) rfl T.m_law_is_row T.F_law_is_row.kp T.b_law_is_row .nil pass0 (pa_cons (pe_ix ix_tup (pv 0) pe_int (fun _ _ => rfl)) pa_nil))))
       pss_nil)
       (C8.pss_cut (ps_if (PW.pt (pw_or (pt_cmpR op_ne (pe_callB (c_len) (by rfl) T.n_len (by decide +kernel) (pa_cons (pe_ix ix_tup (pv 0) pe_int (fun _ _ => rfl)) pa_nil)) pe_int (nomark _)) (pw_or1 (pt_not (pt_val (pe_call (ok_law_is_number T) (hr.mono (by decide)) rfl T.m_law_is_number T.F_law_is_number.kp T.b_law_is_number .nil pass0 (pa_cons (pe_ix ix_tup (pe_ix ix_tup (pv 0) pe_int (fun _ _ => rfl)) pe_int (fun _ _ => rfl)) pa_nil)))))))
       (pss_one (ps_ret pe_bl))
       pss_nil)
       (pss_one (ps_ret (pe_and (pe_call (ok_law_is_row T) (hr.mono (by decide)) rfl T.m_law_is_row T.F_law_is_row.kp T.b_law_is_row .nil pass0 (pa_cons (pe_ix ix_tup (pe_ix ix_tup (pv 0) pe_int (fun _ _ => rfl)) pe_int (fun _ _ => rfl)) pa_nil)) (pe_one (pe_call (ok_law_is_row T) (hr.mono (by decide)) rfl T.m_law_is_row T.F_law_is_row.kp T.b_law_is_row .nil pass0 (pa_cons (pe_ix ix_tup (pe_ix ix_tup (pv 0) pe_int (fun _ _ => rfl)) pe_int (fun _ _ => rfl)) pa_nil)))))))))), ?_⟩
    try dsimp only [cxOf, Cx.nox, Cx.wish]
    obtain ⟨v, L, m, rfl, h, hg, q⟩ := h
    obtain ⟨t, b, rfl, ht, hb⟩ := h
    obtain ⟨_, _, _, _, hg⟩ := hg
    refine r_cutS ?_ ?_
    · walk_at "go"
      exact ⟨rfl, rfl⟩
    refine r_cutH ?_ ?_
    · walk_at "go"
      refine ⟨t, _, rfl, ht, (by show ¬ ((0 : Nat) = 0 ∧ (3 : Nat) = 4); decide), fun p np => ?_⟩
      revert p np
      walk_at "al"
      rename_i p np H1 s1 g1
      have g1' : SqT K H1 p (([kindB m.b, m.seq, m.rank] : List Int).map V.int) := .of g1
      have ht1 := Same.tup s1 ht
      obtain ⟨xs, hb1⟩ := (hb.mono s1).tups
      walk_at "go"
      exact ⟨rfl, s1⟩
    intro H1 s1
    have ht1 := Same.tup s1 ht
    have hb1 := hb.mono s1
    cases hm : m.b with
    | cm ids us a =>
      rw [hm] at ht1 hb1
      obtain ⟨i, u, h1, h2, h3⟩ := hb1
      have ht2 : SqT K H1 t [.int 1, .int m.seq, .int m.rank, .ref b] := ht1
      clear ht1 ht hb
      walk_at "go"
      refine r_cutS ?_ ?_
      · walk_at "go"
        exact ⟨rfl, rfl⟩
      walk_at "go"
      exact q _ s1
    | ot k ns =>
      rw [hm] at ht1 hb1 hg
      have k2 := hg.1
      have h2 : SqT K H1 b (ns.map V.int) := hb1
      have ht2 : SqT K H1 t [.int k, .int m.seq, .int m.rank, .ref b] := ht1
      clear ht1 ht hb
      walk_at "go"
      exact q _ s1

def sp_law_layout (C : Addr) : Sp := fun args_ H Q _ => ∃ (r : Int), args_ = [.int r] ∧ ∀ (L : Lay) (H' : Hp) (p : Addr), LayS L → Same H H' → H p = none → LayAt C L H' p → Q (.ref p) H'
theorem i_law_layout {C : Addr} {args_ : List V} {H : Hp} {Q : V → Hp → Prop} {E : XK} {r : Int} (ev : args_ = [.int r]) (q : ∀ (L : Lay) (H' : Hp) (p : Addr), LayS L → Same H H' → H p = none → LayAt C L H' p → Q (.ref p) H') : sp_law_layout C args_ H Q E := ⟨r, ev, q⟩
local macro_rules | `(tactic| walk_at "ca1") => `(tactic| with_reducible (refine' Sg.i_law_layout ?ev ?_; (case ev => (with_unfolding_all rfl)); intros))

theorem ok_law_layout (T : Txt K mg) : FnOk P w K mg base CX0 4 T.a_law_layout T.fd_law_layout ["digit"] (sp_law_layout T.A_Layout) := by
  refine T.F_law_layout.ok sc_law_layout (fun vs H Q E h => ?_) (fun cdv A outer s H vs Q E hr h => ?_)
  · obtain ⟨r, rfl, _⟩ := h
    rfl
  · refine ⟨_, (pss_cons (ps_set (i := 1) sc_law_layout.nd rfl (Or.inl rfl) (pe_lst (pa_cons (pe_tup (pa_cons pe_int (pa_cons pe_int (pa_cons pe_int pa_nil)))) (pa_cons (pe_tup (pa_cons pe_int (pa_cons pe_int (pa_cons pe_int pa_nil)))) (pa_cons (pe_tup (pa_cons pe_int (pa_cons pe_int (pa_cons pe_int pa_nil)))) (pa_cons (pe_tup (pa_cons pe_int (pa_cons pe_int (pa_cons pe_int pa_nil)))) (pa_cons (pe_tup (pa_cons pe_int (pa_cons pe_int (pa_cons pe_int pa_nil)))) (pa_cons (pe_tup (pa_cons pe_int (pa_cons pe_int (pa_cons pe_int pa_nil)))) (pa_cons (pe_tup (pa_cons pe_int (pa_cons pe_int (pa_cons pe_int pa_nil)))) (pa_cons (pe_tup (pa_cons pe_int (pa_cons pe_int (pa_cons pe_int pa_nil)))) pa_nil))))))))))
       (pss_cons (ps_set (i := 2) sc_law_layout.nd rfl (Or.inl rfl) (pe_ix ix_list (pv 1) (pe_op op_mod (pe_callTy c_int (by rfl) T.n_int (by decide +kernel) (pa_cons (pv 0) pa_nil)) pe_int) (fun _ _ => rfl)))
       (pss_one (ps_ret (pe_make T.M_Layout (ok_Layout___init T) (hr.mono (by decide)) rfl T.m_Layout T.b_Layout___init .nil pass0 (pa_cons (pe_ix ix_tup (pv 2) pe_int (fun _ _ => rfl)) (pa_cons (pe_ix ix_tup (pv 2) pe_int (fun _ _ => rfl)) (pa_cons (pe_ix ix_tup (pv 2) pe_int (fun _ _ => rfl)) pa_nil)))))))), ?_⟩
    try dsimp only [cxOf, Cx.nox, Cx.wish]
    obtain ⟨r, rfl, q⟩ := h
    have cl_Layout := T.cl_Layout
    walk_at "rd"
    rename_i t1 n1 H1 s1 h1 t2 n2 H2 s2 h2 t3 n3 H3 s3 h3 t4 n4 H4 s4 h4 t5 n5 H5 s5 h5 t6 n6 H6 s6 h6 t7 n7 H7 s7 h7 t8 n8 H8 s8 h8 ml nl Hm sm hm y hy y0 y1
    obtain ⟨s, b, z, t, et, ht, hF⟩ : ∃ (s b z : Int) (t : Addr), atI [V.ref t1, V.ref t2, V.ref t3, V.ref t4, V.ref t5, V.ref t6, V.ref t7, V.ref t8] y = some (.ref t) ∧ Hm t = some (.tup [.int s, .int b, .int z]) ∧ Fits s b z := by
      rcases (by omega : y = 0 ∨ y = 1 ∨ y = 2 ∨ y = 3 ∨ y = 4 ∨ y = 5 ∨ y = 6 ∨ y = 7) with rfl | rfl | rfl | rfl | rfl | rfl | rfl | rfl
      · exact ⟨4, 16, 64, t1, rfl, by walk_at "hp", ⟨by decide, by decide, by decide, by decide, by decide, by decide⟩⟩
      · exact ⟨5, 16, 64, t2, rfl, by walk_at "hp", ⟨by decide, by decide, by decide, by decide, by decide, by decide⟩⟩
      · exact ⟨4, 17, 64, t3, rfl, by walk_at "hp", ⟨by decide, by decide, by decide, by decide, by decide, by decide⟩⟩
      · exact ⟨4, 16, 128, t4, rfl, by walk_at "hp", ⟨by decide, by decide, by decide, by decide, by decide, by decide⟩⟩
      · exact ⟨6, 20, 128, t5, rfl, by walk_at "hp", ⟨by decide, by decide, by decide, by decide, by decide, by decide⟩⟩
      · exact ⟨4, 32, 128, t6, rfl, by walk_at "hp", ⟨by decide, by decide, by decide, by decide, by decide, by decide⟩⟩
      · exact ⟨8, 16, 64, t7, rfl, by walk_at "hp", ⟨by decide, by decide, by decide, by decide, by decide, by decide⟩⟩
      · exact ⟨5, 31, 256, t8, rfl, by walk_at "hp", ⟨by decide, by decide, by decide, by decide, by decide, by decide⟩⟩
    refine r_ixl (by walk_at "hp") et ?_
    have sM : Same H Hm := by walk_at "sm"
    clear s1 s2 s3 s4 s5 s6 s7 s8 sm h1 h2 h3 h4 h5 h6 h7 h8 hm n1 n2 n3 n4 n5 n6 n7 n8 nl
    walk_at "rd"
    intro x dx nx nd ne
    refine ⟨x, dx, _, _, _, rfl, upd_same, hF, fun H3 fs k h3 hL => ⟨rfl, ?_⟩⟩
    have s3 := made_same nx nd k
    exact q _ _ _ hF.lays (sM.trans s3) (sM.free nx) ⟨_, _, h3, hL⟩
def spLaw (K : PySem.W.Frag) : Sp := fun vs H Q _ => ∃ (a : Addr) (ns : List Int), vs = [.ref a] ∧ SqL K H a (ns.map V.int) ∧ ns.length ≤ 63 ∧ ∀ H', Q (.bl true) H'
theorem i_number {K : PySem.W.Frag} {args_ : List V} {H : Hp} {Q : V → Hp → Prop} {E : XK} {a : Addr} {ns : List Int} {k : Int} (ev : args_ = [.ref a, .int k]) (hS : SqL K H a (ns.map V.int)) (h63 : ns.length ≤ 63) (k0 : 0 ≤ k) (k1 : k ≤ 1000) (q : ∀ z : Int, 0 ≤ z → Q (.int z) H) : sp_number K args_ H Q E := ⟨a, ns, k, ev, hS, h63, k0, k1, q⟩
local macro_rules | `(tactic| walk_at "ca1") => `(tactic| with_reducible (refine' Sg.i_number ?ev ?hS ?h63 ?k0 ?k1 ?_; (case ev => (with_unfolding_all rfl)); (case hS => (with_unfolding_all walk_at "pr")); (case h63 => (with_unfolding_all walk_at "pr")); (case k0 => (with_unfolding_all walk_at "pr")); (case k1 => (with_unfolding_all walk_at "pr")); intros))


/-! ### the law reads blocks -/
theorem pair_val {os : List Int} {i : Nat} (h : i + 1 < os.length) : val ((os.drop i).take 2) = os.getD i 0 + 256 * os.getD (i + 1) 0 := by
  rw [List.drop_eq_getElem_cons (by omega), List.drop_eq_getElem_cons h]
  show val [os[i], os[i + 1]] = _
  rw [List.getD_eq_getElem?_getD, List.getD_eq_getElem?_getD, List.getElem?_eq_getElem (by omega), List.getElem?_eq_getElem h, val, val, val]
  show (0 * 256 + os[i + 1]) * 256 + os[i] = os[i] + 256 * os[i + 1]
  omega
theorem piecesV_take {os : List Int} {c : Nat} (h : 2 * c ≤ os.length) : piecesV (os.take (2 * c)) = (List.range c).map fun k => os.getD (2 * k) 0 + 256 * os.getD (2 * k + 1) 0 := by
  unfold piecesV
  rw [List.length_take, Nat.min_eq_left h, show (2 * c + 1) / 2 = c by omega]
  refine List.map_congr_left fun k hk => ?_
  have hk' := List.mem_range.mp hk
  have e : (List.drop (k * 2) (os.take (2 * c))).take 2 = (os.drop (2 * k)).take 2 := by
    rw [List.drop_take, List.take_take, Nat.min_eq_left (by omega), Nat.mul_comm]
  rw [e, pair_val (by omega)]
def sp_law_list (K : PySem.W.Frag) : Sp := fun args_ H Q _ => ∃ (a : Addr) (os : List Int) (c : Int), args_ = [.ref a, .int c] ∧ SqL K H a (os.map V.int) ∧ 0 ≤ c ∧ 2 * c ≤ (os.length : Int) ∧ os.length ≤ 1000 ∧ ∀ (H' : Hp) (t : Addr), Same H H' → H t = none → H' t = some (.tup ((piecesV (os.take (2 * c.toNat))).map V.int)) → Q (.ref t) H'
theorem i_law_list {K : PySem.W.Frag} {args_ : List V} {H : Hp} {Q : V → Hp → Prop} {E : XK} {a : Addr} {os : List Int} {c : Int} (ev : args_ = [.ref a, .int c]) (h : SqL K H a (os.map V.int)) (c0 : 0 ≤ c) (c1 : 2 * c ≤ (os.length : Int)) (hl : os.length ≤ 1000) (q : ∀ (H' : Hp) (t : Addr), Same H H' → H t = none → H' t = some (.tup ((piecesV (os.take (2 * c.toNat))).map V.int)) → Q (.ref t) H') : sp_law_list K args_ H Q E := ⟨a, os, c, ev, h, c0, c1, hl, q⟩
local macro_rules | `(tactic| walk_at "ca1") => `(tactic| with_reducible (refine' Sg.i_law_list ?ev ?h ?c0 ?c1 ?hl ?_; (case ev => (with_unfolding_all rfl)); (case h => (with_unfolding_all walk_at "pr")); (case c0 => (with_unfolding_all walk_at "pr")); (case c1 => (with_unfolding_all walk_at "pr")); (case hl => (with_unfolding_all walk_at "pr")); intros))

theorem ok_law_list (T : Txt K mg) : FnOk P w K mg base CX0 1 T.a_law_list T.fd_law_list ["octets", "count"] (sp_law_list K) := by
  refine T.F_law_list.ok sc_law_list (fun vs H Q E h => ?_) (fun cdv A outer s H vs Q E hr h => ?_)
  · obtain ⟨a, os, c, rfl, _⟩ := h
    rfl
  · refine ⟨_, (pss_cons (ps_set (i := 2) sc_law_list.nd rfl (Or.inl rfl) (pe_lst pa_nil))
       (pss_cons (ps_for PassesOwn.never rfl (pi_range1 rfl T.n_range (pa_cons (pv 1) pa_nil)) (pg_name (i := 3) sc_law_list.nd rfl (Or.inl rfl))
       (pss_one (ps_expr (pe_bm PySem.F.plainAttrs_list PySem.F.slot_list_append PySem.F.type_list_append mt_append (pv 2) (pa_cons (pe_op op_add (pe_ix ix_list (pv 0) (pe_op op_mul pe_int (pv 3)) (fun _ _ => rfl)) (pe_op op_mul pe_int (pe_ix ix_list (pv 0) (pe_op op_add (pe_op op_mul pe_int (pv 3)) pe_int) (fun _ _ => rfl)))) pa_nil)))))
       (pss_one (ps_ret (pe_callTy c_tuple (by rfl) T.n_tuple (by decide +kernel) (pa_cons (pv 2) pa_nil)))))), ?_⟩
    try dsimp only [cxOf, Cx.nox, Cx.wish]
    obtain ⟨a, os, c, rfl, h, c0, c1, hl, q⟩ := h
    walk_at "go"
    rename_i l nl H1 s1 g1
    refine r_forR (fun i σ' H' => ∃ (v3 : Option V), σ' = [some (.ref a), some (.int c), some (.ref l), v3] ∧ Same H H' ∧ H' l = some (.lst (((List.range i).map fun k => os.getD (2 * k) 0 + 256 * os.getD (2 * k + 1) 0).map V.int))) ⟨_, rfl, s1, g1⟩ ?_ ?_
    · rintro i σ' H' hi ⟨v3, rfl, s2, g2⟩
      have h2 := s2.seq h
      walk_at "go"
      rw [Int.zero_add]
      refine r_ixl h2 (at_ints (by omega) (by omega)) ?_
      walk_at "go"
      refine r_ixl h2 (at_ints (by omega) (by omega)) ?_
      walk_at "go"
      rename_i H3 hH g3
      refine ⟨_, rfl, Sg.Same.old s2 nl hH, ?_⟩
      rw [g3, List.range_succ, List.map_append, List.map_append, show (2 * (i : Int)).toNat = 2 * i by omega, show (2 * (i : Int) + 1).toNat = 2 * i + 1 by omega]
      rfl
    · rintro σ' H' ⟨v3, rfl, s2, g2⟩
      walk_at "go"
      rename_i t nt H2 s3 g3
      refine q _ _ (by walk_at "sm") (by walk_at "nn") ?_
      rw [g3, piecesV_take (by omega)]
def sp_law_commit (K : PySem.W.Frag) (C : Addr) : Sp := fun args_ H Q _ => ∃ (p a : Addr) (L : Lay) (os : List Int), args_ = [.ref p, .ref a] ∧ LayAt C L H p ∧ LayS L ∧ SqL K H a (os.map V.int) ∧ (os.length : Int) = L.size ∧ (∀ x ∈ os, 0 ≤ x ∧ x < 256) ∧ ((∀ b, readBB L 1 os = some b → ∀ (H' : Hp) (t : Addr), Same H H' → BodyAt K H' t b → Q (.ref t) H')) ∧ (readBB L 1 os = none → ∀ H', Same H H' → Q .non H')
theorem i_law_commit {K : PySem.W.Frag} {C : Addr} {args_ : List V} {H : Hp} {Q : V → Hp → Prop} {E : XK} {p a : Addr} {L : Lay} {os : List Int} (ev : args_ = [.ref p, .ref a]) (hL : LayAt C L H p) (hS : LayS L) (h : SqL K H a (os.map V.int)) (hl : (os.length : Int) = L.size) (hb : (∀ x ∈ os, 0 ≤ x ∧ x < 256)) (q1 : (∀ b, readBB L 1 os = some b → ∀ (H' : Hp) (t : Addr), Same H H' → BodyAt K H' t b → Q (.ref t) H')) (q2 : (readBB L 1 os = none → ∀ H', Same H H' → Q .non H')) : sp_law_commit K C args_ H Q E := ⟨p, a, L, os, ev, hL, hS, h, hl, hb, q1, q2⟩
local macro_rules | `(tactic| walk_at "ca1") => `(tactic| with_reducible (refine' Sg.i_law_commit ?ev ?hL ?hS ?h ?hl ?hb ?q1 ?q2; (case ev => (with_unfolding_all rfl)); (case hL => (with_unfolding_all walk_at "pr")); (case hS => (with_unfolding_all walk_at "pr")); (case h => (with_unfolding_all walk_at "pr")); (case hl => (with_unfolding_all walk_at "pr")); (case hb => (with_unfolding_all walk_at "pr"))))

theorem ok_law_commit (T : Txt K mg) : FnOk P w K mg base CX0 2 T.a_law_commit T.fd_law_commit ["layout", "row"] (sp_law_commit K T.A_Layout) := by
  refine T.F_law_commit.ok sc_law_commit (fun vs H Q E h => ?_) (fun cdv A outer s H vs Q E hr h => ?_)
  · obtain ⟨p, a, L, os, rfl, _⟩ := h
    rfl
  · refine ⟨_, (pss_cons (ps_set (i := 2) sc_law_commit.nd rfl (Or.inl rfl) (pe_op op_sub (pe_fld (pv 0) rfl) pe_int))
       (pss_cons (ps_set (i := 3) sc_law_commit.nd rfl (Or.inl rfl) (pe_op op_add (pe_ix ix_list (pv 1) pe_int (fun _ _ => rfl)) (pe_op op_mul pe_int (pe_ix ix_list (pv 1) pe_int (fun _ _ => rfl)))))
       (C8.pss_cut (ps_if (PW.pt (pw_or (pt_cmpR op_gt (pv 3) (pv 2) (nomark _)) (pw_or1 (pt_cmpR op_gt (pe_ix ix_list (pv 1) pe_int (fun _ _ => rfl)) pe_int (nomark _)))))
       (pss_one (ps_ret pe_non))
       pss_nil)
       (pss_cons (ps_set (i := 4) sc_law_commit.nd rfl (Or.inl rfl) (pe_op op_mul (pe_op op_sub (pe_fld (pv 0) rfl) pe_int) (pv 2)))
       (pss_cons (ps_set (i := 5) sc_law_commit.nd rfl (Or.inl rfl) (pe_lst pa_nil))
       (pss_cons (ps_for PassesOwn.never rfl (pi_range2 rfl T.n_range (pa_cons pe_int (pa_cons (pe_op op_add (pv 4) pe_int) pa_nil))) (pg_name (i := 6) sc_law_commit.nd rfl (Or.inl rfl))
       (pss_cons (ps_set (i := 7) sc_law_commit.nd rfl (Or.inl rfl) (pe_ix ix_list (pv 1) (pe_op op_add (pe_op op_add pe_int (pe_op op_mul pe_int (pv 2))) (pe_op op_fdiv (pe_op op_sub (pv 6) pe_int) pe_int)) (fun _ _ => rfl)))
       (pss_cons (ps_for PassesOwn.never rfl (pi_range1 rfl T.n_range (pa_cons (pe_op op_mod (pe_callTy c_int (by rfl) T.n_int (by decide +kernel) (pa_cons (pe_op op_sub (pv 6) pe_int) pa_nil)) pe_int) pa_nil)) (pg_name (i := 8) sc_law_commit.nd rfl (Or.inl rfl))
       (pss_one (ps_set (i := 7) sc_law_commit.nd rfl (Or.inl rfl) (pe_op op_fdiv (pv 7) pe_int))))
       (pss_one (ps_if (pt_cmpR op_eq (pe_op op_mod (pe_callTy c_int (by rfl) T.n_int (by decide +kernel) (pa_cons (pv 7) pa_nil)) pe_int) pe_int (nomark _))
       (pss_one (ps_expr (pe_bm PySem.F.plainAttrs_list PySem.F.slot_list_append PySem.F.type_list_append mt_append (pv 5) (pa_cons (pv 6) pa_nil))))
       pss_nil)))))
       (pss_one (ps_ret (pe_tup (pa_cons (pe_call (ok_law_list T) (hr.mono (by decide)) rfl T.m_law_list T.F_law_list.kp T.b_law_list .nil pass0 (pa_cons (pe_slice sl_list (pv 1) (po_some pe_int) po_none) (pa_cons (pv 3) pa_nil))) (pa_cons (pe_callTy c_tuple (by rfl) T.n_tuple (by decide +kernel) (pa_cons (pv 5) pa_nil)) (pa_cons (pe_ix ix_list (pv 1) pe_int (fun _ _ => rfl)) pa_nil)))))))))))), ?_⟩
    try dsimp only [cxOf, Cx.nox, Cx.wish]
    obtain ⟨p, a, L, os, rfl, hL, hS, h, hl, hb, q1, q2⟩ := h
    have cl_Layout := T.cl_Layout
    have na_Layout_segment_blocks := T.na_Layout_segment_blocks
    have na_Layout_segments := T.na_Layout_segments
    obtain ⟨dx, fs, hp, F⟩ := id hL
    have lk1 := F.seg
    have lk2 := F.blk
    have las := hS.las
    have z1 := hS.c.z1
    have z0 := hS.c.z0
    have p0 := hS.c.pay
    have b0 := hS.c.b0
    have sf := hS.sf
    have l0 := hS.c.l0
    have p0' : L.blk - 1 = L.pay := p0.symm
    have rb : readBB L 1 os = (if cntO os ≤ L.pay ∧ os.getD 7 0 ≤ 6 then some (.cm (listedO os) ((List.range L.last.toNat).filter (bitAt (os.drop (16 + 2 * L.pay).toNat))) (os.getD 7 0)) else none) := rfl
    have cn : cntO os = os.getD 5 0 + 256 * os.getD 6 0 := pair_val (by omega)
    have ei : ∀ i : Nat, i < os.length → (os.map V.int)[i]? = some (.int (os.getD i 0)) := fun i hi => by
      rw [List.getElem?_map, List.getD_eq_getElem?_getD, List.getElem?_eq_getElem hi]
      rfl
    walk_at "go"
    rw [p0']
    refine r_ixl h (atI_nat (j := 5) (ei 5 (by omega))) ?_
    walk_at "go"
    refine r_ixl h (atI_nat (j := 6) (ei 6 (by omega))) ?_
    walk_at "go"
    rw [← cn]
    by_cases hc : cntO os ≤ L.pay
    case neg =>
      refine r_cut (fun _ _ => False) ?_ (fun _ _ z => z.elim)
      walk_at "go"
      exact q2 (by rw [rb, if_neg (fun z => hc z.1)]) _ (Same.refl _)
    by_cases h6 : 6 < os.getD 7 0
    · refine r_cut (fun _ _ => False) ?_ (fun _ _ z => z.elim)
      walk_at "go"
      refine r_ixl h (atI_nat (j := 7) (ei 7 (by omega))) ?_
      walk_at "go"
      exact q2 (by rw [rb, if_neg (fun z => by have := z.2; omega)]) _ (Same.refl _)
    refine r_cutS ?_ ?_
    · walk_at "go"
      refine r_ixl h (atI_nat (j := 7) (ei 7 (by omega))) ?_
      walk_at "go"
      exact ⟨rfl, rfl⟩
    have c0 : 0 ≤ cntO os := (val2_lt _ (by rw [List.length_take]; omega) (fun x hx => hb x (List.mem_of_mem_drop (List.mem_of_mem_take hx)))).1
    have l1 := hS.c.l1
    walk_at "go"
    rw [las]
    walk_at "go"
    rename_i l nl H1 s1 g1
    rw [show (L.last + 1 - 1).toNat = L.last.toNat by omega]
    generalize hB : (List.drop (16 + 2 * L.pay).toNat os) = bs at rb
    have bd : ∀ i : Nat, bs.getD i 0 = os.getD ((16 + 2 * L.pay).toNat + i) 0 := fun i => by
      rw [← hB, List.getD_eq_getElem?_getD, List.getElem?_drop, ← List.getD_eq_getElem?_getD]
    refine r_forR (fun i σ' H' => ∃ (v6 v7 v8 : Option V), σ' = [some (.ref p), some (.ref a), some (.int L.pay), some (.int (cntO os)), some (.int L.last), some (.ref l), v6, v7, v8] ∧ Same H H' ∧ H' l = some (.lst ((idsOf ((List.range i).filter (bitAt bs))).map V.int))) ⟨_, _, _, rfl, s1, g1⟩ ?_ ?_
    · rintro i σ' H' hi ⟨v6, v7, v8, rfl, s2, g2⟩
      have h2 := s2.seq h
      have ii : (1 : Int) + i - 1 = i := by omega
      walk_at "go"
      rw [ii]
      refine r_ixl h2 (at_ints (by omega) (by omega)) ?_
      walk_at "go"
      rename_i z hz z0' z1'
      generalize ho : os.getD (16 + 2 * L.pay + (i : Int) / 8).toNat 0 = oct
      refine r_forR (fun j σ' H'' => ∃ (v8 : Option V), σ' = [some (.ref p), some (.ref a), some (.int L.pay), some (.int (cntO os)), some (.int L.last), some (.ref l), some (.int (1 + (i : Int))), some (.int (oct / 2 ^ j)), v8] ∧ H' = H'') ⟨_, by rw [Int.pow_zero, Int.ediv_one]; rfl, rfl⟩ ?_ ?_
      · rintro j σ' H'' hj ⟨v8, rfl, rfl⟩
        have e : oct / 2 ^ j / 2 = oct / 2 ^ (j + 1) := by
          rw [Int.ediv_ediv_of_nonneg (Int.le_of_lt (Int.pow_pos (by decide))), Int.pow_succ]
        walk_at "go"
        exact ⟨_, by rw [← e]; rfl, rfl⟩
      rintro σ' H'' ⟨v8, rfl, rfl⟩
      have eb : bitAt bs i = decide (oct / 2 ^ z.toNat % 2 = 1) := by
        unfold bitAt
        rw [bd, ← ho, show (16 + 2 * L.pay + (i : Int) / 8).toNat = (16 + 2 * L.pay).toNat + i / 8 by omega, show z.toNat = i % 8 by omega]
      walk_at "go"
      rename_i y hy y0 y1
      rw [← hy] at eb
      refine to_ite (fun hc1 => ?_) (fun hc1 => ?_)
      · rw [hc1] at eb
        walk_at "go"
        refine r_app g2 (by
          rw [List.length_map, idsOf_len, sz]
          have := List.length_filter_le (bitAt bs) (List.range i)
          rw [List.length_range] at this
          omega) ?_
        generalize hH : upd _ _ _ = H4
        have g5 := Sg.at_new hH
        walk_at "go"
        refine ⟨_, _, _, rfl, Sg.Same.old s2 nl hH, ?_⟩
        rw [g5, List.range_succ, List.filter_append, List.filter_cons, if_pos eb, List.filter_nil]
        unfold idsOf
        rw [List.map_append, List.map_append, show [i].map (fun p : Nat => (p : Int) + 1) = [1 + (i : Int)] from by
          show [(i : Int) + 1] = _
          rw [Int.add_comm]]
        rfl
      · rw [hc1] at eb
        walk_at "go"
        refine ⟨_, _, _, rfl, s2, ?_⟩
        rw [List.range_succ, List.filter_append, List.filter_cons, if_neg (by rw [eb]; decide), List.filter_nil, List.append_nil]
        exact g2
    · rintro σ' H' ⟨v6, v7, v8, rfl, s2, g2⟩
      have h2 := s2.seq h
      have hl3 : 2 * cntO os ≤ ((List.drop (Int.toNat 16) os).length : Int) := by
        rw [List.length_drop]
        have : Int.toNat 16 = 16 := rfl
        omega
      have hl4 : (List.drop (Int.toNat 16) os).length ≤ 1000 := by
        rw [List.length_drop]
        omega
      walk_at "go"
      rename_i H3 p3 s3 n3 g3 H4 t4 s4 n4 g4 t5 n5 H5 s5 g5
      refine r_ixl (s5.seq (s4.seq (s3.seq h2))) (atI_nat (j := 7) (ei 7 (by omega))) ?_
      walk_at "go"
      rename_i t6 n6 H6 s6 g6
      refine q1 (.cm (listedO os) ((List.range L.last.toNat).filter (bitAt bs)) (os.getD 7 0)) (by rw [rb, if_pos ⟨hc, by omega⟩]) _ _ (by walk_at "sm") ⟨t4, t5, .of g6, ?_, .of (s6 _ _ g5)⟩
      have e : listedO os = piecesV (List.take (2 * (cntO os).toNat) (List.drop (Int.toNat 16) os)) := rfl
      rw [e]
      exact .of (s6 _ _ (s5 _ _ g4))
def BodyV (K : PySem.W.Frag) (H : Hp) (v : V) : Option BB → Prop
  | none => v = .non
  | some b => ∃ t, v = .ref t ∧ BodyAt K H t b
def sp_law_read (K : PySem.W.Frag) (C : Addr) : Sp := fun args_ H Q _ => ∃ (p a : Addr) (L : Lay) (os : List Int), args_ = [.ref p, .ref a] ∧ LayAt C L H p ∧ LayS L ∧ SqL K H a (os.map V.int) ∧ (os.length : Int) = 16 + L.size ∧ (∀ x ∈ os, 0 ≤ x ∧ x < 256) ∧ ∀ (H' : Hp) (v : V), Same H H' → BlkAt K H' v (readB L os) → Q v H'
theorem i_law_read {K : PySem.W.Frag} {C : Addr} {args_ : List V} {H : Hp} {Q : V → Hp → Prop} {E : XK} {p a : Addr} {L : Lay} {os : List Int} (ev : args_ = [.ref p, .ref a]) (hL : LayAt C L H p) (hS : LayS L) (h : SqL K H a (os.map V.int)) (hl : (os.length : Int) = 16 + L.size) (hb : (∀ x ∈ os, 0 ≤ x ∧ x < 256)) (q : ∀ (H' : Hp) (v : V), Same H H' → BlkAt K H' v (readB L os) → Q v H') : sp_law_read K C args_ H Q E := ⟨p, a, L, os, ev, hL, hS, h, hl, hb, q⟩
local macro_rules | `(tactic| walk_at "ca1") => `(tactic| with_reducible (refine' Sg.i_law_read ?ev ?hL ?hS ?h ?hl ?hb ?_; (case ev => (with_unfolding_all rfl)); (case hL => (with_unfolding_all walk_at "pr")); (case hS => (with_unfolding_all walk_at "pr")); (case h => (with_unfolding_all walk_at "pr")); (case hl => (with_unfolding_all walk_at "pr")); (case hb => (with_unfolding_all walk_at "pr")); intros))

theorem ok_law_read (T : Txt K mg) : FnOk P w K mg base CX0 5 T.a_law_read T.fd_law_read ["layout", "octets"] (sp_law_read K T.A_Layout) := by
  refine T.F_law_read.ok sc_law_read (fun vs H Q E h => ?_) (fun cdv A outer s H vs Q E hr h => ?_)
  · obtain ⟨p, a, L, os, rfl, _⟩ := h
    rfl
  · refine ⟨_, (pss_cons (ps_set (i := 2) sc_law_read.nd rfl (Or.inl rfl) (pe_ix ix_list (pv 1) pe_int (fun _ _ => rfl)))
       (pss_cons (ps_set (i := 3) sc_law_read.nd rfl (Or.inl rfl) (pe_slice sl_list (pv 1) (po_some pe_int) po_none))
       (pss_cons (ps_set (i := 4) sc_law_read.nd rfl (Or.inl rfl) pe_non)
       (C8.pss_cut (ps_if (pt_cmpR op_eq (pv 2) pe_int (nomark _))
       (pss_one (ps_set (i := 4) sc_law_read.nd rfl (Or.inl rfl) (pe_call (ok_law_commit T) (hr.mono (by decide)) rfl T.m_law_commit T.F_law_commit.kp T.b_law_commit .nil pass0 (pa_cons (pv 0) (pa_cons (pv 3) pa_nil)))))
       (pss_one (ps_if (PW.pt (pw_and (pt_cmpR op_eq (pv 2) pe_int (nomark _)) (pw_and1 (pt_cmpR op_lt (pe_op op_add (pe_ix ix_list (pv 3) pe_int (fun _ _ => rfl)) (pe_op op_mul pe_int (pe_ix ix_list (pv 3) pe_int (fun _ _ => rfl)))) (pe_fld (pv 0) rfl) (nomark _)))))
       (pss_one (ps_set (i := 4) sc_law_read.nd rfl (Or.inl rfl) (pe_call (ok_law_list T) (hr.mono (by decide)) rfl T.m_law_list T.F_law_list.kp T.b_law_list .nil pass0 (pa_cons (pe_slice sl_list (pv 3) (po_some pe_int) po_none) (pa_cons (pe_op op_add (pe_ix ix_list (pv 3) pe_int (fun _ _ => rfl)) (pe_op op_mul pe_int (pe_ix ix_list (pv 3) pe_int (fun _ _ => rfl)))) pa_nil)))))
       (pss_one (ps_if (pt_cmpR op_eq (pv 2) pe_int (nomark _))
       (pss_one (ps_set (i := 4) sc_law_read.nd rfl (Or.inl rfl) (pe_callTy c_tuple (by rfl) T.n_tuple (by decide +kernel) (pa_cons (pv 3) pa_nil))))
       (pss_one (ps_if (PW.pt (pw_or (pt_cmpR op_eq (pv 2) pe_int (nomark _)) (pw_or1 (pt_cmpR op_eq (pv 2) pe_int (nomark _)))))
       (pss_one (ps_set (i := 4) sc_law_read.nd rfl (Or.inl rfl) (pe_call (ok_law_list T) (hr.mono (by decide)) rfl T.m_law_list T.F_law_list.kp T.b_law_list .nil pass0 (pa_cons (pv 3) (pa_cons (pe_op op_fdiv (pe_fld (pv 0) rfl) pe_int) pa_nil)))))
       pss_nil)))))))
       (pss_cons (ps_if (pt_cmp (pc_isN (pv 4)) rfl)
       (pss_one (ps_ret pe_non))
       pss_nil)
       (pss_cons (ps_set (i := 5) sc_law_read.nd rfl (Or.inl rfl) pe_int)
       (pss_cons (ps_for PassesOwn.never rfl (pi_range1 rfl T.n_range (pa_cons pe_int pa_nil)) (pg_name (i := 6) sc_law_read.nd rfl (Or.inl rfl))
       (pss_one (ps_set (i := 5) sc_law_read.nd rfl (Or.inl rfl) (pe_op op_add (pe_op op_mul (pv 5) pe_int) (pe_ix ix_list (pv 1) (pe_op op_sub pe_int (pv 6)) (fun _ _ => rfl))))))
       (pss_cons (ps_set (i := 7) sc_law_read.nd rfl (Or.inl rfl) (pe_tup (pa_cons (pv 2) (pa_cons (pv 5) (pa_cons (pe_op op_add (pe_ix ix_list (pv 1) pe_int (fun _ _ => rfl)) (pe_op op_mul pe_int (pe_ix ix_list (pv 1) pe_int (fun _ _ => rfl)))) (pa_cons (pv 4) pa_nil))))))
       (pss_cons (ps_if (pt_cmpR (op_neD hr.units) (pe_call (ok_law_written T) (hr.mono (by decide)) rfl T.m_law_written T.F_law_written.kp T.b_law_written .nil pass0 (pa_cons (pv 0) (pa_cons (pv 7) pa_nil))) (pv 1) (nomark _))
       (pss_one (ps_ret pe_non))
       pss_nil)
       (pss_one (ps_ret (pv 7)))))))))))), ?_⟩
    try dsimp only [cxOf, Cx.nox, Cx.wish]
    obtain ⟨p, a, L, os, rfl, hL, hS, h, hl, hb, q⟩ := h
    have cl_Layout := T.cl_Layout
    have na_Layout_block_size := T.na_Layout_block_size
    have na_Layout_segment_blocks := T.na_Layout_segment_blocks
    obtain ⟨dx, fs, hp, F⟩ := id hL
    have z1 := hS.c.z1
    have z0 := hS.c.z0
    have sgb := F.blk
    have p0 := hS.c.pay
    have e0 : (os.map V.int)[0]? = some (.int (os.getD 0 0)) := by
      rw [List.getElem?_map, List.getD_eq_getElem?_getD, List.getElem?_eq_getElem (by omega)]
      rfl
    walk_at "go"
    refine r_ixl h (atI_nat (j := 0) e0) ?_
    generalize hk : os.getD 0 0 = k
    walk_at "go"
    rename_i H1 r s1 n1 g1
    generalize hrow : List.drop (Int.toNat 16) os = row at g1
    have hl2 : (row.length : Int) = L.size := by
      rw [← hrow, List.length_drop]
      have : Int.toNat 16 = 16 := rfl
      omega
    have hb2 : ∀ x ∈ row, 0 ≤ x ∧ x < 256 := fun x hx => hb x (by rw [← hrow] at hx; exact List.mem_of_mem_drop hx)
    have h1 := s1.seq h
    have hL1 := hL.mono s1
    have ei : ∀ i : Nat, i < row.length → (row.map V.int)[i]? = some (.int (row.getD i 0)) := fun i hi => by
      rw [List.getElem?_map, List.getD_eq_getElem?_getD, List.getElem?_eq_getElem hi]
      rfl
    have cn : cntO row = row.getD 5 0 + 256 * row.getD 6 0 := pair_val (by omega)
    have c0 : 0 ≤ cntO row := (val2_lt _ (by rw [List.length_take]; omega) (fun x hx => hb2 x (List.mem_of_mem_drop (List.mem_of_mem_take hx)))).1
    refine r_cut (fun σ' H' => ∃ v, σ' = [some (.ref p), some (.ref a), some (.int k), some (.ref r), some (v), none, none, none] ∧ Same H1 H' ∧ BodyV K H' v (readBB L k row)) ?_ ?_
    · by_cases k1 : k = 1
      · clear hk
        subst k1
        walk_at "go"
        case q1 =>
          intro b hb' H2 t s2 ht
          walk_at "go"
          exact ⟨_, rfl, s2, by rw [hb']; exact ⟨t, rfl, ht⟩⟩
        case q2 =>
          intro hn H2 s2
          walk_at "go"
          exact ⟨_, rfl, s2, by rw [hn]; exact rfl⟩
      by_cases k2 : k = 2
      · have rb : readBB L k row = (if cntO row ≤ L.pay then some (.ot 2 (listedO row)) else none) := by subst k2; rfl
        walk_at "go"
        refine r_ixl (.of g1) (atI_nat (j := 5) (ei 5 (by omega))) ?_
        walk_at "go"
        refine r_ixl (.of g1) (atI_nat (j := 6) (ei 6 (by omega))) ?_
        walk_at "go"
        rw [← cn]
        by_cases hc : cntO row < L.blk
        · have hl3 : 2 * cntO row ≤ ((List.drop (Int.toNat 16) row).length : Int) := by
            rw [List.length_drop]
            have : Int.toNat 16 = 16 := rfl
            have := hS.sf
            have := hS.c.l0
            omega
          have hl4 : (List.drop (Int.toNat 16) row).length ≤ 1000 := by
            rw [List.length_drop]
            omega
          rw [decide_eq_true hc]
          walk_at "go"
          refine r_ixl (by walk_at "hp") (atI_nat (j := 5) (ei 5 (by omega))) ?_
          walk_at "go"
          refine r_ixl (by walk_at "hp") (atI_nat (j := 6) (ei 6 (by omega))) ?_
          walk_at "go"
          rename_i H3 p3 s3 n3 g3 H4 t4 s4 n4 g4
          rw [← cn] at g4
          exact ⟨_, rfl, s3.trans s4, by rw [rb, if_pos (by omega)]; exact ⟨t4, rfl, show SqT K H4 t4 _ from .of g4⟩⟩
        · rw [decide_eq_false hc]
          walk_at "go"
          exact ⟨_, rfl, Same.refl _, by rw [rb, if_neg (by omega)]; exact rfl⟩
      by_cases k3 : k = 3
      · have rb : readBB L k row = some (.ot 3 row) := by subst k3; rfl
        walk_at "go"
        rename_i t nt H2 s2 g2
        exact ⟨_, rfl, s2, by rw [rb]; exact ⟨t, rfl, show SqT K H2 t _ from .of g2⟩⟩
      have rb : readBB L k row = (if k = 4 ∨ k = 5 then some (.ot k (piecesV row)) else none) := by
        unfold readBB
        rw [if_neg k1, if_neg k2, if_neg k3]
      have fz := hS.c.fz
      have lsz := F.size
      have ec : row.take (2 * (L.size / 2).toNat) = row := List.take_of_length_le (by omega)
      have hlr : row.length ≤ 1000 := by omega
      by_cases k4 : k = 4
      · walk_at "go"
        rename_i H3 t3 s3 n3 g3
        rw [ec] at g3
        exact ⟨_, rfl, s3, by rw [rb, if_pos (.inl k4)]; exact ⟨t3, rfl, show SqT K H3 t3 _ from .of g3⟩⟩
      by_cases k5 : k = 5
      · walk_at "go"
        rename_i H3 t3 s3 n3 g3
        rw [ec] at g3
        exact ⟨_, rfl, s3, by rw [rb, if_pos (.inr k5)]; exact ⟨t3, rfl, show SqT K H3 t3 _ from .of g3⟩⟩
      walk_at "go"
      exact ⟨_, rfl, Same.refl _, by rw [rb, if_neg (by omega)]; exact rfl⟩
    rintro σ' H2 ⟨v, rfl, s2, hv⟩
    have er : readB L os = match readBB L k row with
      | none => none
      | some b => if blkO L (some (rawB os b)) = os then some (rawB os b) else none := by
      unfold readB
      rw [hk, show List.drop 16 os = row from hrow]
      all_goals (cases readBB L k row <;> rfl)
    cases hR : readBB L k row with
    | none =>
      rw [hR] at hv er
      have hv' : v = .non := hv
      subst hv'
      walk_at "go"
      exact q _ _ (s1.trans s2) (by rw [er]; exact rfl)
    | some b =>
      rw [hR] at hv er
      have er' : readB L os = if blkO L (some (rawB os b)) = os then some (rawB os b) else none := er
      obtain ⟨t, rfl, ht⟩ := hv
      have hg := readBB_good hS hl2 hb2 hR
      have h2 := s2.seq h1
      walk_at "go"
      refine r_forR (fun i σ' H' => ∃ (v7 : Option V), σ' = [some (.ref p), some (.ref a), some (.int k), some (.ref r), some (.ref t), some (.int (val ((os.drop (7 - i)).take i))), v7, none] ∧ H2 = H') ⟨_, rfl, rfl⟩ ?_ ?_
      · rintro i σ' H' hi ⟨v7, rfl, rfl⟩
        have hi6 : i < 6 := hi
        have ev : val ((os.drop (7 - (i + 1))).take (i + 1)) = val ((os.drop (7 - i)).take i) * 256 + os.getD (6 - i) 0 := by
          rw [show 7 - (i + 1) = 6 - i by omega, List.drop_eq_getElem_cons (show 6 - i < os.length by omega), show 6 - i + 1 = 7 - i by omega]
          show val (os[6 - i] :: (os.drop (7 - i)).take i) = _
          rw [val, List.getD_eq_getElem?_getD, List.getElem?_eq_getElem (show 6 - i < os.length by omega)]
          rfl
        walk_at "go"
        refine r_ixl h2 (at_ints (by omega) (by omega)) ?_
        walk_at "go"
        exact ⟨_, by rw [ev, show (6 - (0 + (i : Int))).toNat = 6 - i by omega]; rfl, rfl⟩
      rintro σ' H' ⟨v7, rfl, rfl⟩
      have e7 : ∀ i : Nat, i < os.length → (os.map V.int)[i]? = some (.int (os.getD i 0)) := fun i hi => by
        rw [List.getElem?_map, List.getD_eq_getElem?_getD, List.getElem?_eq_getElem hi]
        rfl
      walk_at "go"
      refine r_ixl h2 (atI_nat (j := 7) (e7 7 (by omega))) ?_
      walk_at "go"
      refine r_ixl h2 (atI_nat (j := 8) (e7 8 (by omega))) ?_
      walk_at "go"
      rename_i p5 n5 H5 s5 g5
      have pv : os.getD 7 0 + 256 * os.getD 8 0 = (rawB os b).rank := (pair_val (by omega)).symm
      have g5' : SqT K H5 p5 [.int (kindB b), .int (rawB os b).seq, .int (rawB os b).rank, .ref t] := by
        rw [hg.2, ← pv]
        exact .of g5
      have hB : BlkAt K H5 (.ref p5) (some (rawB os b)) := ⟨p5, t, rfl, g5', ht.mono s5⟩
      have hG : GoodM L (rawB os b) := by
        have a6 : (List.take 6 (List.drop 1 os)).length = 6 := by rw [List.length_take, List.length_drop]; omega
        have a2 : (List.take 2 (List.drop 7 os)).length = 2 := by rw [List.length_take, List.length_drop]; omega
        have b6 := val_lt (l := List.take 6 (List.drop 1 os)) fun x hx => hb x (List.mem_of_mem_drop (List.mem_of_mem_take hx))
        have b2 := val_lt (l := List.take 2 (List.drop 7 os)) fun x hx => hb x (List.mem_of_mem_drop (List.mem_of_mem_take hx))
        rw [a6] at b6
        rw [a2] at b2
        exact ⟨b6.1, b6.2, b2.1, b2.2, hg.1⟩
      have S5 : Same H H5 := s1.trans (s2.trans s5)
      have hL5 : LayAt T.A_Layout L H5 p := hL.mono S5
      have h5 : SqL K H5 a (os.map V.int) := S5.seq h
      clear g5 n5 pv
      refine i_law_written rfl hL5 hS hB (fun m hm => by cases hm; exact hG) ?_
      intro H6 l6 s6 n6 g6
      have h6 := s6.seq h5
      walk_at "go"
      refine r_neII (.of g6) h6 ?_
      by_cases c : blkO L (some (rawB os b)) = os
      · rw [decide_eq_true c]
        rw [if_pos c] at er'
        walk_at "go"
        exact q _ _ (S5.trans s6) (by rw [er']; exact hB.mono s6)
      · rw [decide_eq_false c]
        rw [if_neg c] at er'
        walk_at "go"
        exact q _ _ (S5.trans s6) (by rw [er']; exact rfl)

/-- [x for x in ns if b x] -/
theorem r_lcFLX {K : PySem.W.Frag} {a : Addr} {ns : List Int} {slot : Nat} {vs : List Nat} {tt : TT} {σ : L2.St} {H : Hp} {Q : V → Hp → Prop} (b : Int → Bool) (hx : SqL K H a (ns.map V.int)) (hn : ns.length ≤ 100000) (hv : vs = [slot]) (hsl : slot < σ.length)
    (ht : ∀ (z : Int) (H' : Hp), L2.Same H H' → ∀ R : Bool → Hp → Prop, R (b z) H' → tt ((wipe σ vs).set slot (some (.int z))) H' R)
    (q : ∀ (H' : Hp) (l : Addr), L2.Same H H' → H l = none → H' l = some (.lst ((ns.filter b).map V.int)) → Q (.ref l) H') :
    kLc (gName slot) tt (tVar slot) vs σ Q (Itl K a) H := by
  intro L hL
  have hw : ∀ (τ : L2.St) (x : V), wipe (τ.set slot (some x)) [slot] = wipe τ [slot] := fun τ x => by simp [wipe, List.set_set]
  have hw2 : wipe (wipe σ vs) vs = wipe σ vs := by subst hv; simp [wipe, List.set_set]
  have hwl : (wipe σ vs).length = σ.length := by subst hv; simp [wipe]
  refine lc_list (xs := ns.map V.int) (fun i H' => H' L = some (.lst (((ns.take i).filter b).map V.int)) ∧ L2.Same H H') ⟨upd_same, fun b o e => by rw [upd_ne (ne_of_none e hL)]; exact e⟩ ?_ ?_ ?_
  · rintro i H' hi ⟨_, s⟩
    exact s.seq hx
  · rintro i x H' hi ⟨eL, s⟩
    rw [List.getElem?_map] at hi
    obtain ⟨z, hz, rfl⟩ := Option.map_eq_some_iff.mp hi
    have hil := (List.getElem?_eq_some_iff.mp hz).1
    refine ⟨?_, ?_⟩
    · subst hv
      rw [hw]
      exact hw2
    · show tt ((wipe σ vs).set slot (some (.int z))) H' _
      refine ht z H' s _ ?_
      refine to_ite (fun hb => ?_) (fun hb => ?_)
      · refine r_var (v := .int z) (by rw [List.getElem?_set_self (by rw [hwl]; exact hsl)]) ?_
        refine ⟨_, eL, ?_, ?_, fun b o e => by rw [upd_ne (ne_of_none e hL)]; exact s _ _ e⟩
        · rw [List.length_map, sz]
          have := List.length_filter_le b (ns.take i)
          rw [List.length_take] at this
          omega
        · rw [upd_same, List.take_add_one, hz, List.filter_append]
          show some (HO.lst (_ ++ _)) = some (HO.lst (List.map V.int (_ ++ List.filter b [z])))
          rw [List.filter_cons, if_pos hb, List.filter_nil, List.map_append]
          rfl
      · refine ⟨?_, s⟩
        rw [List.take_add_one, hz, List.filter_append]
        show _ = some (HO.lst (List.map V.int (_ ++ List.filter b [z])))
        rw [List.filter_cons, if_neg (by rw [hb]; decide), List.filter_nil, List.append_nil]
        exact eL
  · rintro H' ⟨eL, s⟩
    rw [List.length_map, List.take_length] at eL
    exact q H' L s hL eL
theorem r_neb' {x y : Bool} {H : Hp} {Q : V → Hp → Prop} (h : x = y) (q : Q (.bl false) H) : rNe (.bl x) (.bl y) H Q := r_ne rfl (by
  subst h
  rw [decide_eq_true rfl]
  exact q)
theorem blank_eq (os : List Int) : decide ((((os.filter fun z => !decide (z = 0)).map V.int).length : Int) = 0) = !os.any (· != 0) := by
  rw [List.length_map]
  cases h : os.any (· != 0) with
  | false =>
    have h0 := List.any_eq_false.mp h
    rw [List.filter_eq_nil_iff.mpr fun x hx => by have := h0 x hx; simpa using this]
    rfl
  | true =>
    obtain ⟨x, hx, h0⟩ := List.any_eq_true.mp h
    have hm : x ∈ os.filter fun z => !decide (z = 0) := List.mem_filter.mpr ⟨hx, by simpa using h0⟩
    have := List.length_pos_of_mem hm
    show decide _ = false
    exact decide_eq_false (by omega)
theorem ok_law (T : Txt K mg) : FnOk P w K mg base CX0 8 T.a_law T.fd_law ["script"] (spLaw K) := by
  refine T.F_law.ok sc_law (fun vs H Q E h => ?_) (fun cdv A outer s H vs Q E hr h => ?_)
  · obtain ⟨a, ns, rfl, _⟩ := h
    rfl
  · refine ⟨_, (pss_cons (ps_set (i := 1) sc_law.nd rfl (Or.inl rfl) (pe_lst (pa_cons (pe_call (ok_law_number T) (hr.mono (by decide)) rfl T.m_law_number T.F_law_number.kp T.b_law_number .nil pass0 (pa_cons (pv 0) (pa_cons pe_int pa_nil))) pa_nil)))
       (pss_cons (ps_set (i := 2) sc_law.nd rfl (Or.inl rfl) (pe_call (ok_law_layout T) (hr.mono (by decide)) rfl T.m_law_layout T.F_law_layout.kp T.b_law_layout .nil pass0 (pa_cons (pe_call (ok_law_take T) (hr.mono (by decide)) rfl T.m_law_take T.F_law_take.kp T.b_law_take .nil pass0 (pa_cons (pv 1) (pa_cons pe_int pa_nil))) pa_nil)))
       (pss_cons (ps_set (i := 3) sc_law.nd rfl (Or.inl rfl) pe_non)
       (C8.pss_cut (ps_if (pt_cmpR op_gt (pe_call (ok_law_take T) (hr.mono (by decide)) rfl T.m_law_take T.F_law_take.kp T.b_law_take .nil pass0 (pa_cons (pv 1) (pa_cons pe_int pa_nil))) pe_int (nomark _))
       (pss_one (ps_set (i := 3) sc_law.nd rfl (Or.inl rfl) (pe_call (ok_law_block T) (hr.mono (by decide)) rfl T.m_law_block T.F_law_block.kp T.b_law_block .nil pass0 (pa_cons (pv 2) (pa_cons (pe_lst (pa_cons (pe_call (ok_law_number T) (hr.mono (by decide)) rfl T.m_law_number T.F_law_number.kp T.b_law_number .nil pass0 (pa_cons (pv 0) (pa_cons pe_int pa_nil))) pa_nil)) pa_nil)))))
       pss_nil)
       (pss_cons (ps_set (i := 4) sc_law.nd rfl (Or.inl rfl) (pe_call (ok_law_written T) (hr.mono (by decide)) rfl T.m_law_written T.F_law_written.kp T.b_law_written .nil pass0 (pa_cons (pv 2) (pa_cons (pv 3) pa_nil))))
       (pss_cons (ps_set (i := 5) sc_law.nd rfl (Or.inl rfl) (pe_ix ix_list (pe_lst (pa_cons pe_int (pa_cons pe_int (pa_cons (pe_callB (c_len) (by rfl) T.n_len (by decide +kernel) (pa_cons (pv 4) pa_nil)) pa_nil)))) (pe_call (ok_law_take T) (hr.mono (by decide)) rfl T.m_law_take T.F_law_take.kp T.b_law_take .nil pass0 (pa_cons (pv 1) (pa_cons pe_int pa_nil))) (fun _ _ => rfl)))
       (pss_cons (ps_set (i := 6) sc_law.nd rfl (Or.inl rfl) (pe_call (ok_law_take T) (hr.mono (by decide)) rfl T.m_law_take T.F_law_take.kp T.b_law_take .nil pass0 (pa_cons (pv 1) (pa_cons (pv 5) pa_nil))))
       (pss_cons (ps_asg (pe_op op_mod (pe_callTy c_int (by rfl) T.n_int (by decide +kernel) (pa_cons (pe_op op_add (pe_op op_add (pe_ix ix_list (pv 4) (pv 6) (fun _ _ => rfl)) pe_int) (pe_call (ok_law_take T) (hr.mono (by decide)) rfl T.m_law_take T.F_law_take.kp T.b_law_take .nil pass0 (pa_cons (pv 1) (pa_cons pe_int pa_nil)))) pa_nil)) pe_int) (pg_sub (pv 4) (pv 6) set_list))
       (C8.pss_cut (ps_if (pt_cmpR op_eq (pe_call (ok_law_take T) (hr.mono (by decide)) rfl T.m_law_take T.F_law_take.kp T.b_law_take .nil pass0 (pa_cons (pv 1) (pa_cons pe_int pa_nil))) pe_int (nomark _))
       (pss_cons (ps_set (i := 6) sc_law.nd rfl (Or.inl rfl) (pe_call (ok_law_take T) (hr.mono (by decide)) rfl T.m_law_take T.F_law_take.kp T.b_law_take .nil pass0 (pa_cons (pv 1) (pa_cons pe_int pa_nil))))
       (pss_one (ps_asg (pe_call (ok_law_take T) (hr.mono (by decide)) rfl T.m_law_take T.F_law_take.kp T.b_law_take .nil pass0 (pa_cons (pv 1) (pa_cons pe_int pa_nil))) (pg_sub (pv 4) (pv 6) set_list))))
       pss_nil)
       (pss_cons (ps_set (i := 7) sc_law.nd rfl (Or.inl rfl) (pe_call (ok_law_read T) (hr.mono (by decide)) rfl T.m_law_read T.F_law_read.kp T.b_law_read .nil pass0 (pa_cons (pv 2) (pa_cons (pv 4) pa_nil))))
       (pss_cons (ps_set (i := 8) sc_law.nd rfl (Or.inl rfl) (pe_callTy c_list (by rfl) T.n_list (by decide +kernel) (pa_cons (pv 4) pa_nil)))
       (pss_cons (ps_set (i := 9) sc_law.nd rfl (Or.inl rfl) (pe_call (ok_read_block T) (hr.mono (by decide)) rfl T.m_read_block T.F_read_block.kp T.b_read_block .nil pass0 (pa_cons (pv 2) (pa_cons (pv 8) pa_nil))))
       (pss_cons (ps_set (i := 10) sc_law.nd rfl (Or.inl rfl) (pe_call (ok_is_damaged T) (hr.mono (by decide)) rfl T.m_is_damaged T.F_is_damaged.kp T.b_is_damaged .nil pass0 (pa_cons (pv 2) (pa_cons (pv 8) pa_nil))))
       (C8.pss_cut (ps_if (PW.pt (pw_or (pt_cmpR (op_neD hr.units) (pv 8) (pv 4) (nomark _)) (pw_or1 (pt_not (pt_val (pe_callB (call_isi) (by rfl) T.n_isinstance (by decide +kernel) (pa_cons (pv 10) (pa_cons (pe_bltn (v := .ty "bool") (by rfl) T.n_bool (by decide +kernel) rfl) pa_nil))))))))
       (pss_one (ps_ret pe_bl))
       pss_nil)
       (pss_cons (ps_set (i := 11) sc_law.nd rfl (Or.inl rfl) (pe_cmpR op_eq (pe_callB (c_len) (by rfl) T.n_len (by decide +kernel) (pa_cons (pe_lc (own := [("octet", 12)]) (g := gName 12)  rfl sc_law.nd (pi_list (pv 4)) (blkOk_by (own := [("octet", 12)]) (N := n_law) (sc := defScope s_law) (by decide +kernel)) (fun _ _ _ _ _ => pg_name (i := 12) sc_law.nd rfl (Or.inl rfl)) (fun _ _ _ _ _ => pts_one (pt_cmpR op_ne (pv 12) pe_int (nomark _))) (fun _ _ _ _ _ => (pv 12))) pa_nil)) pe_int (nomark _)))
       (pss_cons (ps_if (pt_cmpR op_ne (pv 10) (pe_and (pe_cmp (pc_isN (pv 7)) rfl) (pe_one (pe_not (pv 11)))) (nomark _))
       (pss_one (ps_ret pe_bl))
       pss_nil)
       (pss_cons (ps_if (pt_cmp (pc_isN (pv 7)) rfl)
       (pss_one (ps_ret (pe_cmp (pc_isN (pv 9)) rfl)))
       pss_nil)
       (pss_one (ps_ret (pe_and (pe_call (ok_law_is_block T) (hr.mono (by decide)) rfl T.m_law_is_block T.F_law_is_block.kp T.b_law_is_block .nil pass0 (pa_cons (pv 9) pa_nil)) (pe_one (pe_cmpR (op_eqD hr.units) (pv 9) (pv 7) (nomark _))))))))))))))))))))))), ?_⟩
    try dsimp only [cxOf, Cx.nox, Cx.wish]
    obtain ⟨a, ns, rfl, hS, h63, q⟩ := h
    walk_at "go"
    rename_i z z0 b nb H1 s1 g1 H2 d n1 e1 g2 d0 d1 L H3 p hS3 s3 np hL
    have S3 : Same H H3 := (e1.same s1 nb).trans s3
    have g3 := s3 _ _ g2
    clear s1 g1 e1 g2 np s3
    have z1 := hS3.c.z1
    have z0' := hS3.c.z0
    refine r_cut (fun σ' H' => ∃ (n : Int) (v : V) (o : Option BM), σ' = [some (.ref a), some (.ref b), some (.ref p), some (v), none, none, none, none, none, none, none, none, none] ∧ Same H H' ∧ H' b = some (.lst [.int n]) ∧ LayAt T.A_Layout L H' p ∧ BlkAt K H' v o ∧ ∀ m, o = some m → GoodM L m) ?_ ?_
    · walk_at "go"
      rename_i K1 d5 n5 e5 g5 d50 d51
      have SK := e5.same S3 nb
      have LK := e5.lay g3 hL
      have hSc := SK.seq hS
      refine r_ite (fun hc => ?_) (fun hc => ?_)
      · walk_at "go"
        rename_i zz zz0 b7 n7 K2 s2 g7 K3 v m e3 hB hG
        have S2 : Same K1 K3 := e3.same s2 n7
        exact ⟨_, _, some m, rfl, SK.trans S2, S2 _ _ g5, LK.mono S2, hB, fun m' h => by cases h; exact hG⟩
      · walk_at "go"
        exact ⟨_, _, none, rfl, SK, g5, LK, rfl, fun m' h => nomatch h⟩
    rintro σ' H4 ⟨n4, v, o, rfl, S4, g4, hL4, hB, hG⟩
    have bl := blkO_len L hS3 o
    have ob := byt_blk hG
    walk_at "go"
    rename_i H5 l s5 nl g5 tl ntl H6 s6 g6 H7 d7 n7 e7 g7 d70 d71
    have nt : tl ≠ b := fun z => by rw [z, s5 _ _ g4] at ntl; cases ntl
    have nlb : l ≠ b := fun z => by rw [z, g4] at nl; cases nl
    have nl0 : H l = none := S4.free nl
    rw [List.length_map] at g6
    generalize hos : blkO L o = os at g5 g6 bl ob
    have hlen : (os.length : Int) = 16 + L.size := by omega
    have S6 : Same H H6 := S4.trans (s5.trans s6)
    have hL6 : LayAt T.A_Layout L H6 p := (hL4.mono s5).mono s6
    have S7 : Same H H7 := e7.same S6 nb
    have hL7 := e7.lay (s6 _ _ (s5 _ _ g4)) hL6
    have l7 : H7 l = some (.lst (os.map V.int)) := e7 _ _ nlb (s6 _ _ g5)
    refine r_ixl (.of (e7 _ _ nt g6)) (at_ints (ts := [16, 32, (os.length : Int)]) d70 (by show d7 < 3; omega)) ?_
    have wd : 16 ≤ ([16, 32, (os.length : Int)] : List Int).getD d7.toNat 0 ∧ ([16, 32, (os.length : Int)] : List Int).getD d7.toNat 0 ≤ (os.length : Int) := by
      rcases (by omega : d7 = 0 ∨ d7 = 1 ∨ d7 = 2) with rfl | rfl | rfl
      · show (16 : Int) ≤ 16 ∧ (16 : Int) ≤ os.length; omega
      · show (16 : Int) ≤ 32 ∧ (32 : Int) ≤ os.length; omega
      · show (16 : Int) ≤ os.length ∧ (os.length : Int) ≤ os.length; omega
    generalize ([16, 32, (os.length : Int)] : List Int).getD d7.toNat 0 = wid at wd
    clear g6 e7 s6 s5 ntl
    walk_at "go"
    rename_i H8 pl n8 e8 g8 p0 p1
    have l8 : H8 l = some (.lst (os.map V.int)) := e8 _ _ nlb l7
    refine r_ixl (.of l8) (at_ints p0 (by omega)) ?_
    walk_at "go"
    rename_i H9 d9 n9 e9 g9 d90 d91 y hy y0 y1
    have l9 : H9 l = some (.lst (os.map V.int)) := e9 _ _ nlb l8
    have S9 : Same H H9 := e9.same (e8.same S7 nb) nb
    have hL9 := e9.lay g8 (e8.lay g7 hL7)
    refine r_setl l9 (ixN_ok p0 (by rw [List.length_map]; omega)) ?_
    rw [set_ints]
    generalize hH : upd _ _ _ = H10
    have l10 := Sg.at_new hH
    have g10 : H10 b = some (.lst [.int n9]) := by rw [← hH, upd_ne nlb.symm]; exact g9
    have S10 : Same H H10 := Sg.Same.old S9 nl0 hH
    have hL10 : LayAt T.A_Layout L H10 p := Exb.lay (Exb.put hH) l9 hL9
    have ob1 : ∀ x ∈ os.set pl.toNat y, Byt x := fun x hx => (List.mem_or_eq_of_mem_set hx).elim (ob x) fun e => e ▸ ⟨y0, y1⟩
    have hl1 : ((os.set pl.toNat y).length : Int) = 16 + L.size := by rw [List.length_set]; exact hlen
    generalize os.set pl.toNat y = os1 at l10 ob1 hl1
    clear hH l9 l8 l7 g9 g8 g7 S7 S9 hL7 hL9 e8 e9 S6 hL6
    walk_at "go"
    refine r_cut (fun σ' H' => ∃ (os2 : List Int) (v6 : Option V), σ' = [some (.ref a), some (.ref b), some (.ref p), some (v), some (.ref l), some (.int wid), v6, none, none, none, none, none, none] ∧ Same H H' ∧ H' l = some (.lst (os2.map V.int)) ∧ LayAt T.A_Layout L H' p ∧ (∀ x ∈ os2, Byt x) ∧ (os2.length : Int) = 16 + L.size) ?_ ?_
    · walk_at "go"
      rename_i K1 d1' k1 e1 q1 d10 d11
      have lk1 : K1 l = some (.lst (os1.map V.int)) := e1 _ _ nlb l10
      have sk1 : Same H K1 := e1.same S10 nb
      have Lk1 := e1.lay g10 hL10
      refine r_ite (fun hc => ?_) (fun hc => ?_)
      · walk_at "go"
        rename_i K2 pl2 k2 e2 q2 p20 p21 K3 v3 k3 e3 q3 v30 v31
        have lk3 : K3 l = some (.lst (os1.map V.int)) := e3 _ _ nlb (e2 _ _ nlb lk1)
        have sk3 : Same H K3 := e3.same (e2.same sk1 nb) nb
        have Lk3 := e3.lay q2 (e2.lay q1 Lk1)
        refine r_setl lk3 (ixN_ok p20 (by rw [List.length_map]; omega)) ?_
        rw [set_ints]
        generalize hH : upd _ _ _ = K4
        have lk4 := Sg.at_new hH
        walk_at "go"
        exact ⟨_, _, rfl, Sg.Same.old sk3 nl0 hH, lk4, Exb.lay (Exb.put hH) lk3 Lk3, fun x hx => (List.mem_or_eq_of_mem_set hx).elim (ob1 x) fun e => e ▸ ⟨v30, v31⟩, by rw [List.length_set]; exact hl1⟩
      · walk_at "go"
        exact ⟨_, _, rfl, sk1, lk1, Lk1, ob1, hl1⟩
    rintro σ' H11 ⟨os2, v6, rfl, S11, l11, hL11, ob2, hl2⟩
    walk_at "go"
    rename_i H12 w2 s12 hW l3 nl3 H13 s13 g13 H14 v14 s14 hV hGV H15 s15
    have l15 : H15 l = some (.lst (os2.map V.int)) := s15 _ _ (s14 _ _ (s13 _ _ (s12 _ _ l11)))
    have g15 : H15 l3 = some (.lst (os2.map V.int)) := s15 _ _ (s14 _ _ g13)
    have W15 := ((hW.mono s13).mono s14).mono s15
    have V15 := hV.mono s15
    have hl5 : os2.length ≤ 1000 := by omega
    clear s12 hW s13 g13 s14 hV s15 l11
    refine r_cutS ?_ ?_
    · walk_at "go"
      refine r_neI (.of g15) (.of l15) ?_
      walk_at "go"
      exact ⟨rfl, rfl⟩
    walk_at "go"
    refine r_lcFLX (fun z => !decide (z = 0)) (.of l15) (by omega) rfl (by simp) ?_ ?_
    · intro z H' s R hR
      walk_at "go"
      exact hR
    intro H16 l16 s16 n16 g16
    walk_at "go"
    rw [blank_eq]
    have W16 := W15.mono s16
    have V16 := V15.mono s16
    generalize os2.any (· != 0) = nz
    cases e : readB L os2 with
    | none =>
      rw [e] at W16 V16
      have e1 : w2 = .non := W16
      have e2 : v14 = .non := V16
      subst e1 e2
      cases nz
      · walk_at "go"
        refine r_neb' rfl ?_
        walk_at "go"
        exact q _
      · walk_at "go"
        refine r_neb' rfl ?_
        walk_at "go"
        exact q _
    | some m =>
      rw [e] at W16 V16
      have hgm := hGV m e
      have nw : w2 ≠ .non := fun z => by
        obtain ⟨t, b, e, _⟩ := W16
        rw [e] at z
        cases z
      cases nz
      · walk_at "go"
        refine r_neb' rfl ?_
        walk_at "go"
        rename_i H17 s17
        refine r_eqM (V16.mono s17) (W16.mono s17) ?_
        exact q _
      · walk_at "go"
        refine r_neb' rfl ?_
        walk_at "go"
        rename_i H17 s17
        refine r_eqM (V16.mono s17) (W16.mono s17) ?_
        exact q _

end
theorem all_mk {l : PySem.W.OpenLaw} {w : World} {K : PySem.W.Frag} {h : Heap} {mg : Str → Option Value} {fa C_Layout f_Layout___init f_parts_of f_number_octets f_number_of f_filled f_pieces f_block_octets f_read_block f_is_damaged f_body_octets f_read_body f_read_commit f_read_listed f_summary_head f_pairs f_read_pairs f_bits f_read_bits f_law_number f_law_take f_law_layout f_law_octets f_law_pairs f_law_bits f_law_body f_law_written f_law_numbers f_law_used f_law_block f_law_is_number f_law_is_row f_law_is_block f_law_list f_law_commit f_law_read f_law k_BLOCK_SIZES k_LETTERS : Addr} (X : K.In h) (G : h.Ns mainGlobals mg) (hfa : mg "law" = some (.ref fa))
    {od_Layout___init an_Layout___init od_parts_of an_parts_of od_number_octets an_number_octets od_number_of an_number_of od_filled an_filled od_pieces an_pieces od_block_octets an_block_octets od_read_block an_read_block od_is_damaged an_is_damaged od_body_octets an_body_octets od_read_body an_read_body od_read_commit an_read_commit od_read_listed an_read_listed od_summary_head an_summary_head od_pairs an_pairs od_read_pairs an_read_pairs od_bits an_bits od_read_bits an_read_bits od_law_number an_law_number od_law_take an_law_take od_law_layout an_law_layout od_law_octets an_law_octets od_law_pairs an_law_pairs od_law_bits an_law_bits od_law_body an_law_body od_law_written an_law_written od_law_numbers an_law_numbers od_law_used an_law_used od_law_block an_law_block od_law_is_number an_law_is_number od_law_is_row an_law_is_row od_law_is_block an_law_is_block od_law_list an_law_list od_law_commit an_law_commit od_law_read an_law_read od_law an_law : Option Addr} {sl_Layout___init sl_parts_of sl_number_octets sl_number_of sl_filled sl_pieces sl_block_octets sl_read_block sl_is_damaged sl_body_octets sl_read_body sl_read_commit sl_read_listed sl_summary_head sl_pairs sl_read_pairs sl_bits sl_read_bits sl_law_number sl_law_take sl_law_layout sl_law_octets sl_law_pairs sl_law_bits sl_law_body sl_law_written sl_law_numbers sl_law_used sl_law_block sl_law_is_number sl_law_is_row sl_law_is_block sl_law_list sl_law_commit sl_law_read sl_law : Array (Option Value)} {oc_Layout___init kV_Layout___init dc_Layout___init pm_Layout___init cd_Layout___init ct_Layout___init oc_parts_of kV_parts_of dc_parts_of pm_parts_of cd_parts_of ct_parts_of oc_number_octets kV_number_octets dc_number_octets pm_number_octets cd_number_octets ct_number_octets oc_number_of kV_number_of dc_number_of pm_number_of cd_number_of ct_number_of oc_filled kV_filled dc_filled pm_filled cd_filled ct_filled oc_pieces kV_pieces dc_pieces pm_pieces cd_pieces ct_pieces oc_block_octets kV_block_octets dc_block_octets pm_block_octets cd_block_octets ct_block_octets oc_read_block kV_read_block dc_read_block pm_read_block cd_read_block ct_read_block oc_is_damaged kV_is_damaged dc_is_damaged pm_is_damaged cd_is_damaged ct_is_damaged oc_body_octets kV_body_octets dc_body_octets pm_body_octets cd_body_octets ct_body_octets oc_read_body kV_read_body dc_read_body pm_read_body cd_read_body ct_read_body oc_read_commit kV_read_commit dc_read_commit pm_read_commit cd_read_commit ct_read_commit oc_read_listed kV_read_listed dc_read_listed pm_read_listed cd_read_listed ct_read_listed oc_summary_head kV_summary_head dc_summary_head pm_summary_head cd_summary_head ct_summary_head oc_pairs kV_pairs dc_pairs pm_pairs cd_pairs ct_pairs oc_read_pairs kV_read_pairs dc_read_pairs pm_read_pairs cd_read_pairs ct_read_pairs oc_bits kV_bits dc_bits pm_bits cd_bits ct_bits oc_read_bits kV_read_bits dc_read_bits pm_read_bits cd_read_bits ct_read_bits oc_law_number kV_law_number dc_law_number pm_law_number cd_law_number ct_law_number oc_law_take kV_law_take dc_law_take pm_law_take cd_law_take ct_law_take oc_law_layout kV_law_layout dc_law_layout pm_law_layout cd_law_layout ct_law_layout oc_law_octets kV_law_octets dc_law_octets pm_law_octets cd_law_octets ct_law_octets oc_law_pairs kV_law_pairs dc_law_pairs pm_law_pairs cd_law_pairs ct_law_pairs oc_law_bits kV_law_bits dc_law_bits pm_law_bits cd_law_bits ct_law_bits oc_law_body kV_law_body dc_law_body pm_law_body cd_law_body ct_law_body oc_law_written kV_law_written dc_law_written pm_law_written cd_law_written ct_law_written oc_law_numbers kV_law_numbers dc_law_numbers pm_law_numbers cd_law_numbers ct_law_numbers oc_law_used kV_law_used dc_law_used pm_law_used cd_law_used ct_law_used oc_law_block kV_law_block dc_law_block pm_law_block cd_law_block ct_law_block oc_law_is_number kV_law_is_number dc_law_is_number pm_law_is_number cd_law_is_number ct_law_is_number oc_law_is_row kV_law_is_row dc_law_is_row pm_law_is_row cd_law_is_row ct_law_is_row oc_law_is_block kV_law_is_block dc_law_is_block pm_law_is_block cd_law_is_block ct_law_is_block oc_law_list kV_law_list dc_law_list pm_law_list cd_law_list ct_law_list oc_law_commit kV_law_commit dc_law_commit pm_law_commit cd_law_commit ct_law_commit oc_law_read kV_law_read dc_law_read pm_law_read cd_law_read ct_law_read oc_law kV_law dc_law pm_law cd_law ct_law : Value}
    {t_COMMIT t_DATA t_MOST_ACTION t_MOVE t_NODE t_PART t_SPARE_OCTETS t_SUMMARY_HEAD yt_BLOCK_SIZES_0 yt_BLOCK_SIZES_1 yt_BLOCK_SIZES_2 yt_LETTERS_0 yt_LETTERS_1 yt_LETTERS_2 yt_LETTERS_3 : Tok}
    {yd_BLOCK_SIZES yd_LETTERS : Option Addr} {yn_BLOCK_SIZES yn_LETTERS : Nat} {ys_BLOCK_SIZES ys_LETTERS : Array (Option Value)}
    (mC_Layout : PySem.W.nsIn K mainGlobals "Layout" = some (some (.ref C_Layout)))
    (pg_Layout : PySem.W.plainGet K C_Layout Str.empty = true)
    (hd_Layout : PySem.W.hasDictIn K C_Layout = true)
    (po_Layout : PySem.W.plainOver K C_Layout = true)
    (sa_Layout : PySem.W.findIn K (.ref C_Layout) "__setattr__" = some (some (.builtin "object.__setattr__")))
    (mk_Layout : PySem.W.makesIn K C_Layout = true)
    (kc_Layout : PySem.W.keepIn K (.ref C_Layout) = true)
    (na_Layout_segments : PySem.W.findIn K (.ref C_Layout) "segments" = some none)
    (na_Layout_segment_blocks : PySem.W.findIn K (.ref C_Layout) "segment_blocks" = some none)
    (na_Layout_block_size : PySem.W.findIn K (.ref C_Layout) "block_size" = some none)
    (na_Layout_payload : PySem.W.findIn K (.ref C_Layout) "payload" = some none)
    (na_Layout_limit : PySem.W.findIn K (.ref C_Layout) "limit" = some none)
    (na_Layout_last_id : PySem.W.findIn K (.ref C_Layout) "last_id" = some none)
    (na_Layout_fan : PySem.W.findIn K (.ref C_Layout) "fan" = some none)
    (na_Layout_region_blocks : PySem.W.findIn K (.ref C_Layout) "region_blocks" = some none)
    (na_Layout_device_blocks : PySem.W.findIn K (.ref C_Layout) "device_blocks" = some none)
    (a_Layout___init : PySem.W.findIn K (.ref C_Layout) "__init__" = some (some (.ref f_Layout___init)))
    (i_Layout___init : PySem.W.isFn K (.ref f_Layout___init) = true)
    (l_Layout___init : K.lookup f_Layout___init = some ⟨oc_Layout___init, od_Layout___init, .func (PySem.W.fnOf "__init__" "Layout.__init__" (defArgs s_Layout___init) (defBody s_Layout___init) (defScope s_Layout___init) .none kV_Layout___init dc_Layout___init pm_Layout___init an_Layout___init cd_Layout___init ct_Layout___init), sl_Layout___init⟩)
    (c_Layout___init : PySem.W.codeIn K cd_Layout___init "Layout.__init__" = true)
    (k_Layout___init : PySem.W.keepIn K (.ref f_Layout___init) = true)
    (a_parts_of : PySem.W.nsIn K mainGlobals "parts_of" = some (some (.ref f_parts_of)))
    (l_parts_of : K.lookup f_parts_of = some ⟨oc_parts_of, od_parts_of, .func (PySem.W.fnOf "parts_of" "parts_of" (defArgs s_parts_of) (defBody s_parts_of) (defScope s_parts_of) .none kV_parts_of dc_parts_of pm_parts_of an_parts_of cd_parts_of ct_parts_of), sl_parts_of⟩)
    (c_parts_of : PySem.W.codeIn K cd_parts_of "parts_of" = true)
    (k_parts_of : PySem.W.keepIn K (.ref f_parts_of) = true)
    (a_number_octets : PySem.W.nsIn K mainGlobals "number_octets" = some (some (.ref f_number_octets)))
    (l_number_octets : K.lookup f_number_octets = some ⟨oc_number_octets, od_number_octets, .func (PySem.W.fnOf "number_octets" "number_octets" (defArgs s_number_octets) (defBody s_number_octets) (defScope s_number_octets) .none kV_number_octets dc_number_octets pm_number_octets an_number_octets cd_number_octets ct_number_octets), sl_number_octets⟩)
    (c_number_octets : PySem.W.codeIn K cd_number_octets "number_octets" = true)
    (k_number_octets : PySem.W.keepIn K (.ref f_number_octets) = true)
    (a_number_of : PySem.W.nsIn K mainGlobals "number_of" = some (some (.ref f_number_of)))
    (l_number_of : K.lookup f_number_of = some ⟨oc_number_of, od_number_of, .func (PySem.W.fnOf "number_of" "number_of" (defArgs s_number_of) (defBody s_number_of) (defScope s_number_of) .none kV_number_of dc_number_of pm_number_of an_number_of cd_number_of ct_number_of), sl_number_of⟩)
    (c_number_of : PySem.W.codeIn K cd_number_of "number_of" = true)
    (k_number_of : PySem.W.keepIn K (.ref f_number_of) = true)
    (a_filled : PySem.W.nsIn K mainGlobals "filled" = some (some (.ref f_filled)))
    (l_filled : K.lookup f_filled = some ⟨oc_filled, od_filled, .func (PySem.W.fnOf "filled" "filled" (defArgs s_filled) (defBody s_filled) (defScope s_filled) .none kV_filled dc_filled pm_filled an_filled cd_filled ct_filled), sl_filled⟩)
    (c_filled : PySem.W.codeIn K cd_filled "filled" = true)
    (k_filled : PySem.W.keepIn K (.ref f_filled) = true)
    (a_pieces : PySem.W.nsIn K mainGlobals "pieces" = some (some (.ref f_pieces)))
    (l_pieces : K.lookup f_pieces = some ⟨oc_pieces, od_pieces, .func (PySem.W.fnOf "pieces" "pieces" (defArgs s_pieces) (defBody s_pieces) (defScope s_pieces) .none kV_pieces dc_pieces pm_pieces an_pieces cd_pieces ct_pieces), sl_pieces⟩)
    (c_pieces : PySem.W.codeIn K cd_pieces "pieces" = true)
    (k_pieces : PySem.W.keepIn K (.ref f_pieces) = true)
    (a_block_octets : PySem.W.nsIn K mainGlobals "block_octets" = some (some (.ref f_block_octets)))
    (l_block_octets : K.lookup f_block_octets = some ⟨oc_block_octets, od_block_octets, .func (PySem.W.fnOf "block_octets" "block_octets" (defArgs s_block_octets) (defBody s_block_octets) (defScope s_block_octets) .none kV_block_octets dc_block_octets pm_block_octets an_block_octets cd_block_octets ct_block_octets), sl_block_octets⟩)
    (c_block_octets : PySem.W.codeIn K cd_block_octets "block_octets" = true)
    (k_block_octets : PySem.W.keepIn K (.ref f_block_octets) = true)
    (a_read_block : PySem.W.nsIn K mainGlobals "read_block" = some (some (.ref f_read_block)))
    (l_read_block : K.lookup f_read_block = some ⟨oc_read_block, od_read_block, .func (PySem.W.fnOf "read_block" "read_block" (defArgs s_read_block) (defBody s_read_block) (defScope s_read_block) .none kV_read_block dc_read_block pm_read_block an_read_block cd_read_block ct_read_block), sl_read_block⟩)
    (c_read_block : PySem.W.codeIn K cd_read_block "read_block" = true)
    (k_read_block : PySem.W.keepIn K (.ref f_read_block) = true)
    (a_is_damaged : PySem.W.nsIn K mainGlobals "is_damaged" = some (some (.ref f_is_damaged)))
    (l_is_damaged : K.lookup f_is_damaged = some ⟨oc_is_damaged, od_is_damaged, .func (PySem.W.fnOf "is_damaged" "is_damaged" (defArgs s_is_damaged) (defBody s_is_damaged) (defScope s_is_damaged) .none kV_is_damaged dc_is_damaged pm_is_damaged an_is_damaged cd_is_damaged ct_is_damaged), sl_is_damaged⟩)
    (c_is_damaged : PySem.W.codeIn K cd_is_damaged "is_damaged" = true)
    (k_is_damaged : PySem.W.keepIn K (.ref f_is_damaged) = true)
    (a_body_octets : PySem.W.nsIn K mainGlobals "_body_octets" = some (some (.ref f_body_octets)))
    (l_body_octets : K.lookup f_body_octets = some ⟨oc_body_octets, od_body_octets, .func (PySem.W.fnOf "_body_octets" "_body_octets" (defArgs s_body_octets) (defBody s_body_octets) (defScope s_body_octets) .none kV_body_octets dc_body_octets pm_body_octets an_body_octets cd_body_octets ct_body_octets), sl_body_octets⟩)
    (c_body_octets : PySem.W.codeIn K cd_body_octets "_body_octets" = true)
    (k_body_octets : PySem.W.keepIn K (.ref f_body_octets) = true)
    (a_read_body : PySem.W.nsIn K mainGlobals "_read_body" = some (some (.ref f_read_body)))
    (l_read_body : K.lookup f_read_body = some ⟨oc_read_body, od_read_body, .func (PySem.W.fnOf "_read_body" "_read_body" (defArgs s_read_body) (defBody s_read_body) (defScope s_read_body) .none kV_read_body dc_read_body pm_read_body an_read_body cd_read_body ct_read_body), sl_read_body⟩)
    (c_read_body : PySem.W.codeIn K cd_read_body "_read_body" = true)
    (k_read_body : PySem.W.keepIn K (.ref f_read_body) = true)
    (a_read_commit : PySem.W.nsIn K mainGlobals "_read_commit" = some (some (.ref f_read_commit)))
    (l_read_commit : K.lookup f_read_commit = some ⟨oc_read_commit, od_read_commit, .func (PySem.W.fnOf "_read_commit" "_read_commit" (defArgs s_read_commit) (defBody s_read_commit) (defScope s_read_commit) .none kV_read_commit dc_read_commit pm_read_commit an_read_commit cd_read_commit ct_read_commit), sl_read_commit⟩)
    (c_read_commit : PySem.W.codeIn K cd_read_commit "_read_commit" = true)
    (k_read_commit : PySem.W.keepIn K (.ref f_read_commit) = true)
    (a_read_listed : PySem.W.nsIn K mainGlobals "_read_listed" = some (some (.ref f_read_listed)))
    (l_read_listed : K.lookup f_read_listed = some ⟨oc_read_listed, od_read_listed, .func (PySem.W.fnOf "_read_listed" "_read_listed" (defArgs s_read_listed) (defBody s_read_listed) (defScope s_read_listed) .none kV_read_listed dc_read_listed pm_read_listed an_read_listed cd_read_listed ct_read_listed), sl_read_listed⟩)
    (c_read_listed : PySem.W.codeIn K cd_read_listed "_read_listed" = true)
    (k_read_listed : PySem.W.keepIn K (.ref f_read_listed) = true)
    (a_summary_head : PySem.W.nsIn K mainGlobals "_summary_head" = some (some (.ref f_summary_head)))
    (l_summary_head : K.lookup f_summary_head = some ⟨oc_summary_head, od_summary_head, .func (PySem.W.fnOf "_summary_head" "_summary_head" (defArgs s_summary_head) (defBody s_summary_head) (defScope s_summary_head) .none kV_summary_head dc_summary_head pm_summary_head an_summary_head cd_summary_head ct_summary_head), sl_summary_head⟩)
    (c_summary_head : PySem.W.codeIn K cd_summary_head "_summary_head" = true)
    (k_summary_head : PySem.W.keepIn K (.ref f_summary_head) = true)
    (a_pairs : PySem.W.nsIn K mainGlobals "_pairs" = some (some (.ref f_pairs)))
    (l_pairs : K.lookup f_pairs = some ⟨oc_pairs, od_pairs, .func (PySem.W.fnOf "_pairs" "_pairs" (defArgs s_pairs) (defBody s_pairs) (defScope s_pairs) .none kV_pairs dc_pairs pm_pairs an_pairs cd_pairs ct_pairs), sl_pairs⟩)
    (c_pairs : PySem.W.codeIn K cd_pairs "_pairs" = true)
    (k_pairs : PySem.W.keepIn K (.ref f_pairs) = true)
    (a_read_pairs : PySem.W.nsIn K mainGlobals "_read_pairs" = some (some (.ref f_read_pairs)))
    (l_read_pairs : K.lookup f_read_pairs = some ⟨oc_read_pairs, od_read_pairs, .func (PySem.W.fnOf "_read_pairs" "_read_pairs" (defArgs s_read_pairs) (defBody s_read_pairs) (defScope s_read_pairs) .none kV_read_pairs dc_read_pairs pm_read_pairs an_read_pairs cd_read_pairs ct_read_pairs), sl_read_pairs⟩)
    (c_read_pairs : PySem.W.codeIn K cd_read_pairs "_read_pairs" = true)
    (k_read_pairs : PySem.W.keepIn K (.ref f_read_pairs) = true)
    (a_bits : PySem.W.nsIn K mainGlobals "_bits" = some (some (.ref f_bits)))
    (l_bits : K.lookup f_bits = some ⟨oc_bits, od_bits, .func (PySem.W.fnOf "_bits" "_bits" (defArgs s_bits) (defBody s_bits) (defScope s_bits) .none kV_bits dc_bits pm_bits an_bits cd_bits ct_bits), sl_bits⟩)
    (c_bits : PySem.W.codeIn K cd_bits "_bits" = true)
    (k_bits : PySem.W.keepIn K (.ref f_bits) = true)
    (a_read_bits : PySem.W.nsIn K mainGlobals "_read_bits" = some (some (.ref f_read_bits)))
    (l_read_bits : K.lookup f_read_bits = some ⟨oc_read_bits, od_read_bits, .func (PySem.W.fnOf "_read_bits" "_read_bits" (defArgs s_read_bits) (defBody s_read_bits) (defScope s_read_bits) .none kV_read_bits dc_read_bits pm_read_bits an_read_bits cd_read_bits ct_read_bits), sl_read_bits⟩)
    (c_read_bits : PySem.W.codeIn K cd_read_bits "_read_bits" = true)
    (k_read_bits : PySem.W.keepIn K (.ref f_read_bits) = true)
    (a_law_number : PySem.W.nsIn K mainGlobals "_law_number" = some (some (.ref f_law_number)))
    (l_law_number : K.lookup f_law_number = some ⟨oc_law_number, od_law_number, .func (PySem.W.fnOf "_law_number" "_law_number" (defArgs s_law_number) (defBody s_law_number) (defScope s_law_number) .none kV_law_number dc_law_number pm_law_number an_law_number cd_law_number ct_law_number), sl_law_number⟩)
    (c_law_number : PySem.W.codeIn K cd_law_number "_law_number" = true)
    (k_law_number : PySem.W.keepIn K (.ref f_law_number) = true)
    (a_law_take : PySem.W.nsIn K mainGlobals "_law_take" = some (some (.ref f_law_take)))
    (l_law_take : K.lookup f_law_take = some ⟨oc_law_take, od_law_take, .func (PySem.W.fnOf "_law_take" "_law_take" (defArgs s_law_take) (defBody s_law_take) (defScope s_law_take) .none kV_law_take dc_law_take pm_law_take an_law_take cd_law_take ct_law_take), sl_law_take⟩)
    (c_law_take : PySem.W.codeIn K cd_law_take "_law_take" = true)
    (k_law_take : PySem.W.keepIn K (.ref f_law_take) = true)
    (a_law_layout : PySem.W.nsIn K mainGlobals "_law_layout" = some (some (.ref f_law_layout)))
    (l_law_layout : K.lookup f_law_layout = some ⟨oc_law_layout, od_law_layout, .func (PySem.W.fnOf "_law_layout" "_law_layout" (defArgs s_law_layout) (defBody s_law_layout) (defScope s_law_layout) .none kV_law_layout dc_law_layout pm_law_layout an_law_layout cd_law_layout ct_law_layout), sl_law_layout⟩)
    (c_law_layout : PySem.W.codeIn K cd_law_layout "_law_layout" = true)
    (k_law_layout : PySem.W.keepIn K (.ref f_law_layout) = true)
    (a_law_octets : PySem.W.nsIn K mainGlobals "_law_octets" = some (some (.ref f_law_octets)))
    (l_law_octets : K.lookup f_law_octets = some ⟨oc_law_octets, od_law_octets, .func (PySem.W.fnOf "_law_octets" "_law_octets" (defArgs s_law_octets) (defBody s_law_octets) (defScope s_law_octets) .none kV_law_octets dc_law_octets pm_law_octets an_law_octets cd_law_octets ct_law_octets), sl_law_octets⟩)
    (c_law_octets : PySem.W.codeIn K cd_law_octets "_law_octets" = true)
    (k_law_octets : PySem.W.keepIn K (.ref f_law_octets) = true)
    (a_law_pairs : PySem.W.nsIn K mainGlobals "_law_pairs" = some (some (.ref f_law_pairs)))
    (l_law_pairs : K.lookup f_law_pairs = some ⟨oc_law_pairs, od_law_pairs, .func (PySem.W.fnOf "_law_pairs" "_law_pairs" (defArgs s_law_pairs) (defBody s_law_pairs) (defScope s_law_pairs) .none kV_law_pairs dc_law_pairs pm_law_pairs an_law_pairs cd_law_pairs ct_law_pairs), sl_law_pairs⟩)
    (c_law_pairs : PySem.W.codeIn K cd_law_pairs "_law_pairs" = true)
    (k_law_pairs : PySem.W.keepIn K (.ref f_law_pairs) = true)
    (a_law_bits : PySem.W.nsIn K mainGlobals "_law_bits" = some (some (.ref f_law_bits)))
    (l_law_bits : K.lookup f_law_bits = some ⟨oc_law_bits, od_law_bits, .func (PySem.W.fnOf "_law_bits" "_law_bits" (defArgs s_law_bits) (defBody s_law_bits) (defScope s_law_bits) .none kV_law_bits dc_law_bits pm_law_bits an_law_bits cd_law_bits ct_law_bits), sl_law_bits⟩)
    (c_law_bits : PySem.W.codeIn K cd_law_bits "_law_bits" = true)
    (k_law_bits : PySem.W.keepIn K (.ref f_law_bits) = true)
    (a_law_body : PySem.W.nsIn K mainGlobals "_law_body" = some (some (.ref f_law_body)))
    (l_law_body : K.lookup f_law_body = some ⟨oc_law_body, od_law_body, .func (PySem.W.fnOf "_law_body" "_law_body" (defArgs s_law_body) (defBody s_law_body) (defScope s_law_body) .none kV_law_body dc_law_body pm_law_body an_law_body cd_law_body ct_law_body), sl_law_body⟩)
    (c_law_body : PySem.W.codeIn K cd_law_body "_law_body" = true)
    (k_law_body : PySem.W.keepIn K (.ref f_law_body) = true)
    (a_law_written : PySem.W.nsIn K mainGlobals "_law_written" = some (some (.ref f_law_written)))
    (l_law_written : K.lookup f_law_written = some ⟨oc_law_written, od_law_written, .func (PySem.W.fnOf "_law_written" "_law_written" (defArgs s_law_written) (defBody s_law_written) (defScope s_law_written) .none kV_law_written dc_law_written pm_law_written an_law_written cd_law_written ct_law_written), sl_law_written⟩)
    (c_law_written : PySem.W.codeIn K cd_law_written "_law_written" = true)
    (k_law_written : PySem.W.keepIn K (.ref f_law_written) = true)
    (a_law_numbers : PySem.W.nsIn K mainGlobals "_law_numbers" = some (some (.ref f_law_numbers)))
    (l_law_numbers : K.lookup f_law_numbers = some ⟨oc_law_numbers, od_law_numbers, .func (PySem.W.fnOf "_law_numbers" "_law_numbers" (defArgs s_law_numbers) (defBody s_law_numbers) (defScope s_law_numbers) .none kV_law_numbers dc_law_numbers pm_law_numbers an_law_numbers cd_law_numbers ct_law_numbers), sl_law_numbers⟩)
    (c_law_numbers : PySem.W.codeIn K cd_law_numbers "_law_numbers" = true)
    (k_law_numbers : PySem.W.keepIn K (.ref f_law_numbers) = true)
    (a_law_used : PySem.W.nsIn K mainGlobals "_law_used" = some (some (.ref f_law_used)))
    (l_law_used : K.lookup f_law_used = some ⟨oc_law_used, od_law_used, .func (PySem.W.fnOf "_law_used" "_law_used" (defArgs s_law_used) (defBody s_law_used) (defScope s_law_used) .none kV_law_used dc_law_used pm_law_used an_law_used cd_law_used ct_law_used), sl_law_used⟩)
    (c_law_used : PySem.W.codeIn K cd_law_used "_law_used" = true)
    (k_law_used : PySem.W.keepIn K (.ref f_law_used) = true)
    (a_law_block : PySem.W.nsIn K mainGlobals "_law_block" = some (some (.ref f_law_block)))
    (l_law_block : K.lookup f_law_block = some ⟨oc_law_block, od_law_block, .func (PySem.W.fnOf "_law_block" "_law_block" (defArgs s_law_block) (defBody s_law_block) (defScope s_law_block) .none kV_law_block dc_law_block pm_law_block an_law_block cd_law_block ct_law_block), sl_law_block⟩)
    (c_law_block : PySem.W.codeIn K cd_law_block "_law_block" = true)
    (k_law_block : PySem.W.keepIn K (.ref f_law_block) = true)
    (a_law_is_number : PySem.W.nsIn K mainGlobals "_law_is_number" = some (some (.ref f_law_is_number)))
    (l_law_is_number : K.lookup f_law_is_number = some ⟨oc_law_is_number, od_law_is_number, .func (PySem.W.fnOf "_law_is_number" "_law_is_number" (defArgs s_law_is_number) (defBody s_law_is_number) (defScope s_law_is_number) .none kV_law_is_number dc_law_is_number pm_law_is_number an_law_is_number cd_law_is_number ct_law_is_number), sl_law_is_number⟩)
    (c_law_is_number : PySem.W.codeIn K cd_law_is_number "_law_is_number" = true)
    (k_law_is_number : PySem.W.keepIn K (.ref f_law_is_number) = true)
    (a_law_is_row : PySem.W.nsIn K mainGlobals "_law_is_row" = some (some (.ref f_law_is_row)))
    (l_law_is_row : K.lookup f_law_is_row = some ⟨oc_law_is_row, od_law_is_row, .func (PySem.W.fnOf "_law_is_row" "_law_is_row" (defArgs s_law_is_row) (defBody s_law_is_row) (defScope s_law_is_row) .none kV_law_is_row dc_law_is_row pm_law_is_row an_law_is_row cd_law_is_row ct_law_is_row), sl_law_is_row⟩)
    (c_law_is_row : PySem.W.codeIn K cd_law_is_row "_law_is_row" = true)
    (k_law_is_row : PySem.W.keepIn K (.ref f_law_is_row) = true)
    (a_law_is_block : PySem.W.nsIn K mainGlobals "_law_is_block" = some (some (.ref f_law_is_block)))
    (l_law_is_block : K.lookup f_law_is_block = some ⟨oc_law_is_block, od_law_is_block, .func (PySem.W.fnOf "_law_is_block" "_law_is_block" (defArgs s_law_is_block) (defBody s_law_is_block) (defScope s_law_is_block) .none kV_law_is_block dc_law_is_block pm_law_is_block an_law_is_block cd_law_is_block ct_law_is_block), sl_law_is_block⟩)
    (c_law_is_block : PySem.W.codeIn K cd_law_is_block "_law_is_block" = true)
    (k_law_is_block : PySem.W.keepIn K (.ref f_law_is_block) = true)
    (a_law_list : PySem.W.nsIn K mainGlobals "_law_list" = some (some (.ref f_law_list)))
    (l_law_list : K.lookup f_law_list = some ⟨oc_law_list, od_law_list, .func (PySem.W.fnOf "_law_list" "_law_list" (defArgs s_law_list) (defBody s_law_list) (defScope s_law_list) .none kV_law_list dc_law_list pm_law_list an_law_list cd_law_list ct_law_list), sl_law_list⟩)
    (c_law_list : PySem.W.codeIn K cd_law_list "_law_list" = true)
    (k_law_list : PySem.W.keepIn K (.ref f_law_list) = true)
    (a_law_commit : PySem.W.nsIn K mainGlobals "_law_commit" = some (some (.ref f_law_commit)))
    (l_law_commit : K.lookup f_law_commit = some ⟨oc_law_commit, od_law_commit, .func (PySem.W.fnOf "_law_commit" "_law_commit" (defArgs s_law_commit) (defBody s_law_commit) (defScope s_law_commit) .none kV_law_commit dc_law_commit pm_law_commit an_law_commit cd_law_commit ct_law_commit), sl_law_commit⟩)
    (c_law_commit : PySem.W.codeIn K cd_law_commit "_law_commit" = true)
    (k_law_commit : PySem.W.keepIn K (.ref f_law_commit) = true)
    (a_law_read : PySem.W.nsIn K mainGlobals "_law_read" = some (some (.ref f_law_read)))
    (l_law_read : K.lookup f_law_read = some ⟨oc_law_read, od_law_read, .func (PySem.W.fnOf "_law_read" "_law_read" (defArgs s_law_read) (defBody s_law_read) (defScope s_law_read) .none kV_law_read dc_law_read pm_law_read an_law_read cd_law_read ct_law_read), sl_law_read⟩)
    (c_law_read : PySem.W.codeIn K cd_law_read "_law_read" = true)
    (k_law_read : PySem.W.keepIn K (.ref f_law_read) = true)
    (a_law : PySem.W.nsIn K mainGlobals "law" = some (some (.ref f_law)))
    (l_law : K.lookup f_law = some ⟨oc_law, od_law, .func (PySem.W.fnOf "law" "law" (defArgs s_law) (defBody s_law) (defScope s_law) .none kV_law dc_law pm_law an_law cd_law ct_law), sl_law⟩)
    (c_law : PySem.W.codeIn K cd_law "law" = true)
    (k_law : PySem.W.keepIn K (.ref f_law) = true)
    (q_BLOCK_SIZES : PySem.W.nsIn K mainGlobals "BLOCK_SIZES" = some (some (.ref k_BLOCK_SIZES)))
    (y_BLOCK_SIZES : K.lookup k_BLOCK_SIZES = some ⟨.type "tuple", yd_BLOCK_SIZES, .seq #[.int 64 yt_BLOCK_SIZES_0, .int 128 yt_BLOCK_SIZES_1, .int 256 yt_BLOCK_SIZES_2] yn_BLOCK_SIZES, ys_BLOCK_SIZES⟩)
    (q_COMMIT : PySem.W.nsIn K mainGlobals "COMMIT" = some (some (.int 1 t_COMMIT)))
    (q_DATA : PySem.W.nsIn K mainGlobals "DATA" = some (some (.int 3 t_DATA)))
    (q_LETTERS : PySem.W.nsIn K mainGlobals "LETTERS" = some (some (.ref k_LETTERS)))
    (y_LETTERS : K.lookup k_LETTERS = some ⟨.type "tuple", yd_LETTERS, .seq #[.int 83 yt_LETTERS_0, .int 71 yt_LETTERS_1, .int 70 yt_LETTERS_2, .int 83 yt_LETTERS_3] yn_LETTERS, ys_LETTERS⟩)
    (q_MOST_ACTION : PySem.W.nsIn K mainGlobals "MOST_ACTION" = some (some (.int 6 t_MOST_ACTION)))
    (q_MOVE : PySem.W.nsIn K mainGlobals "MOVE" = some (some (.int 2 t_MOVE)))
    (q_NODE : PySem.W.nsIn K mainGlobals "NODE" = some (some (.int 4 t_NODE)))
    (q_PART : PySem.W.nsIn K mainGlobals "PART" = some (some (.int 5 t_PART)))
    (q_SPARE_OCTETS : PySem.W.nsIn K mainGlobals "SPARE_OCTETS" = some (some (.int 16 t_SPARE_OCTETS)))
    (q_SUMMARY_HEAD : PySem.W.nsIn K mainGlobals "SUMMARY_HEAD" = some (some (.int 16 t_SUMMARY_HEAD)))
    (n_any : PySem.W.nsIn K mainGlobals "any" = some none)
    (n_bool : PySem.W.nsIn K mainGlobals "bool" = some none)
    (n_int : PySem.W.nsIn K mainGlobals "int" = some none)
    (n_isinstance : PySem.W.nsIn K mainGlobals "isinstance" = some none)
    (n_len : PySem.W.nsIn K mainGlobals "len" = some none)
    (n_list : PySem.W.nsIn K mainGlobals "list" = some none)
    (n_range : PySem.W.nsIn K mainGlobals "range" = some none)
    (n_reversed : PySem.W.nsIn K mainGlobals "reversed" = some none)
    (n_set : PySem.W.nsIn K mainGlobals "set" = some none)
    (n_tuple : PySem.W.nsIn K mainGlobals "tuple" = some none)
    : ∃ fd : FuncData, (∀ (s : Shared) (v : Value), BindsTo s fd ⟨[v], []⟩ [("script", v)]) ∧ ∀ base : Heap, K.In base → base.Ns mainGlobals mg → FnOk l.prog w K mg base CX0 8 fa fd ["script"] (spLaw K) := by
  have e := hfa.symm.trans (PySem.W.mg_of X G a_law)
  cases e
  have F_Layout___init := fun_mk (st := s_Layout___init) l_Layout___init c_Layout___init k_Layout___init
  have b_Layout___init := F_Layout___init.binds (ps := ["self", "segments", "segment_blocks", "block_size"]) fun _ _ _ _ _ _ us hl => match us, hl with | [_, _, _, _], _ => rfl
  have F_parts_of := fun_mk (st := s_parts_of) l_parts_of c_parts_of k_parts_of
  have b_parts_of := F_parts_of.binds (ps := ["number", "size"]) fun _ _ _ _ _ _ us hl => match us, hl with | [_, _], _ => rfl
  have F_number_octets := fun_mk (st := s_number_octets) l_number_octets c_number_octets k_number_octets
  have b_number_octets := F_number_octets.binds (ps := ["number", "count"]) fun _ _ _ _ _ _ us hl => match us, hl with | [_, _], _ => rfl
  have F_number_of := fun_mk (st := s_number_of) l_number_of c_number_of k_number_of
  have b_number_of := F_number_of.binds (ps := ["octets"]) fun _ _ _ _ _ _ us hl => match us, hl with | [_], _ => rfl
  have F_filled := fun_mk (st := s_filled) l_filled c_filled k_filled
  have b_filled := F_filled.binds (ps := ["numbers", "count"]) fun _ _ _ _ _ _ us hl => match us, hl with | [_, _], _ => rfl
  have F_pieces := fun_mk (st := s_pieces) l_pieces c_pieces k_pieces
  have b_pieces := F_pieces.binds (ps := ["numbers", "size"]) fun _ _ _ _ _ _ us hl => match us, hl with | [_, _], _ => rfl
  have F_block_octets := fun_mk (st := s_block_octets) l_block_octets c_block_octets k_block_octets
  have b_block_octets := F_block_octets.binds (ps := ["layout", "block"]) fun _ _ _ _ _ _ us hl => match us, hl with | [_, _], _ => rfl
  have F_read_block := fun_mk (st := s_read_block) l_read_block c_read_block k_read_block
  have b_read_block := F_read_block.binds (ps := ["layout", "octets"]) fun _ _ _ _ _ _ us hl => match us, hl with | [_, _], _ => rfl
  have F_is_damaged := fun_mk (st := s_is_damaged) l_is_damaged c_is_damaged k_is_damaged
  have b_is_damaged := F_is_damaged.binds (ps := ["layout", "octets"]) fun _ _ _ _ _ _ us hl => match us, hl with | [_, _], _ => rfl
  have F_body_octets := fun_mk (st := s_body_octets) l_body_octets c_body_octets k_body_octets
  have b_body_octets := F_body_octets.binds (ps := ["layout", "kind", "body"]) fun _ _ _ _ _ _ us hl => match us, hl with | [_, _, _], _ => rfl
  have F_read_body := fun_mk (st := s_read_body) l_read_body c_read_body k_read_body
  have b_read_body := F_read_body.binds (ps := ["layout", "kind", "octets"]) fun _ _ _ _ _ _ us hl => match us, hl with | [_, _, _], _ => rfl
  have F_read_commit := fun_mk (st := s_read_commit) l_read_commit c_read_commit k_read_commit
  have b_read_commit := F_read_commit.binds (ps := ["layout", "octets"]) fun _ _ _ _ _ _ us hl => match us, hl with | [_, _], _ => rfl
  have F_read_listed := fun_mk (st := s_read_listed) l_read_listed c_read_listed k_read_listed
  have b_read_listed := F_read_listed.binds (ps := ["layout", "octets"]) fun _ _ _ _ _ _ us hl => match us, hl with | [_, _], _ => rfl
  have F_summary_head := fun_mk (st := s_summary_head) l_summary_head c_summary_head k_summary_head
  have b_summary_head := F_summary_head.binds (ps := ["kind", "count"]) fun _ _ _ _ _ _ us hl => match us, hl with | [_, _], _ => rfl
  have F_pairs := fun_mk (st := s_pairs) l_pairs c_pairs k_pairs
  have b_pairs := F_pairs.binds (ps := ["numbers"]) fun _ _ _ _ _ _ us hl => match us, hl with | [_], _ => rfl
  have F_read_pairs := fun_mk (st := s_read_pairs) l_read_pairs c_read_pairs k_read_pairs
  have b_read_pairs := F_read_pairs.binds (ps := ["octets"]) fun _ _ _ _ _ _ us hl => match us, hl with | [_], _ => rfl
  have F_bits := fun_mk (st := s_bits) l_bits c_bits k_bits
  have b_bits := F_bits.binds (ps := ["layout", "used"]) fun _ _ _ _ _ _ us hl => match us, hl with | [_, _], _ => rfl
  have F_read_bits := fun_mk (st := s_read_bits) l_read_bits c_read_bits k_read_bits
  have b_read_bits := F_read_bits.binds (ps := ["layout", "octets"]) fun _ _ _ _ _ _ us hl => match us, hl with | [_, _], _ => rfl
  have F_law_number := fun_mk (st := s_law_number) l_law_number c_law_number k_law_number
  have b_law_number := F_law_number.binds (ps := ["script", "k"]) fun _ _ _ _ _ _ us hl => match us, hl with | [_, _], _ => rfl
  have F_law_take := fun_mk (st := s_law_take) l_law_take c_law_take k_law_take
  have b_law_take := F_law_take.binds (ps := ["box", "size"]) fun _ _ _ _ _ _ us hl => match us, hl with | [_, _], _ => rfl
  have F_law_layout := fun_mk (st := s_law_layout) l_law_layout c_law_layout k_law_layout
  have b_law_layout := F_law_layout.binds (ps := ["digit"]) fun _ _ _ _ _ _ us hl => match us, hl with | [_], _ => rfl
  have F_law_octets := fun_mk (st := s_law_octets) l_law_octets c_law_octets k_law_octets
  have b_law_octets := F_law_octets.binds (ps := ["number", "count"]) fun _ _ _ _ _ _ us hl => match us, hl with | [_, _], _ => rfl
  have F_law_pairs := fun_mk (st := s_law_pairs) l_law_pairs c_law_pairs k_law_pairs
  have b_law_pairs := F_law_pairs.binds (ps := ["numbers", "count"]) fun _ _ _ _ _ _ us hl => match us, hl with | [_, _], _ => rfl
  have F_law_bits := fun_mk (st := s_law_bits) l_law_bits c_law_bits k_law_bits
  have b_law_bits := F_law_bits.binds (ps := ["used", "last"]) fun _ _ _ _ _ _ us hl => match us, hl with | [_, _], _ => rfl
  have F_law_body := fun_mk (st := s_law_body) l_law_body c_law_body k_law_body
  have b_law_body := F_law_body.binds (ps := ["layout", "kind", "body"]) fun _ _ _ _ _ _ us hl => match us, hl with | [_, _, _], _ => rfl
  have F_law_written := fun_mk (st := s_law_written) l_law_written c_law_written k_law_written
  have b_law_written := F_law_written.binds (ps := ["layout", "block"]) fun _ _ _ _ _ _ us hl => match us, hl with | [_, _], _ => rfl
  have F_law_numbers := fun_mk (st := s_law_numbers) l_law_numbers c_law_numbers k_law_numbers
  have b_law_numbers := F_law_numbers.binds (ps := ["box", "count", "bound"]) fun _ _ _ _ _ _ us hl => match us, hl with | [_, _, _], _ => rfl
  have F_law_used := fun_mk (st := s_law_used) l_law_used c_law_used k_law_used
  have b_law_used := F_law_used.binds (ps := ["box", "last"]) fun _ _ _ _ _ _ us hl => match us, hl with | [_, _], _ => rfl
  have F_law_block := fun_mk (st := s_law_block) l_law_block c_law_block k_law_block
  have b_law_block := F_law_block.binds (ps := ["layout", "box"]) fun _ _ _ _ _ _ us hl => match us, hl with | [_, _], _ => rfl
  have F_law_is_number := fun_mk (st := s_law_is_number) l_law_is_number c_law_is_number k_law_is_number
  have b_law_is_number := F_law_is_number.binds (ps := ["actual"]) fun _ _ _ _ _ _ us hl => match us, hl with | [_], _ => rfl
  have F_law_is_row := fun_mk (st := s_law_is_row) l_law_is_row c_law_is_row k_law_is_row
  have b_law_is_row := F_law_is_row.binds (ps := ["actual"]) fun _ _ _ _ _ _ us hl => match us, hl with | [_], _ => rfl
  have F_law_is_block := fun_mk (st := s_law_is_block) l_law_is_block c_law_is_block k_law_is_block
  have b_law_is_block := F_law_is_block.binds (ps := ["actual"]) fun _ _ _ _ _ _ us hl => match us, hl with | [_], _ => rfl
  have F_law_list := fun_mk (st := s_law_list) l_law_list c_law_list k_law_list
  have b_law_list := F_law_list.binds (ps := ["octets", "count"]) fun _ _ _ _ _ _ us hl => match us, hl with | [_, _], _ => rfl
  have F_law_commit := fun_mk (st := s_law_commit) l_law_commit c_law_commit k_law_commit
  have b_law_commit := F_law_commit.binds (ps := ["layout", "row"]) fun _ _ _ _ _ _ us hl => match us, hl with | [_, _], _ => rfl
  have F_law_read := fun_mk (st := s_law_read) l_law_read c_law_read k_law_read
  have b_law_read := F_law_read.binds (ps := ["layout", "octets"]) fun _ _ _ _ _ _ us hl => match us, hl with | [_, _], _ => rfl
  have F_law := fun_mk (st := s_law) l_law c_law k_law
  have b_law := F_law.binds (ps := ["script"]) fun _ _ _ _ _ _ us hl => match us, hl with | [_], _ => rfl
  let T : Txt K mg := {
    a_Layout___init := f_Layout___init,
    fd_Layout___init := _,
    F_Layout___init := F_Layout___init,
    b_Layout___init := b_Layout___init,
    a_parts_of := f_parts_of,
    fd_parts_of := _,
    F_parts_of := F_parts_of,
    b_parts_of := b_parts_of,
    m_parts_of := PySem.W.mg_of X G a_parts_of,
    a_number_octets := f_number_octets,
    fd_number_octets := _,
    F_number_octets := F_number_octets,
    b_number_octets := b_number_octets,
    m_number_octets := PySem.W.mg_of X G a_number_octets,
    a_number_of := f_number_of,
    fd_number_of := _,
    F_number_of := F_number_of,
    b_number_of := b_number_of,
    m_number_of := PySem.W.mg_of X G a_number_of,
    a_filled := f_filled,
    fd_filled := _,
    F_filled := F_filled,
    b_filled := b_filled,
    m_filled := PySem.W.mg_of X G a_filled,
    a_pieces := f_pieces,
    fd_pieces := _,
    F_pieces := F_pieces,
    b_pieces := b_pieces,
    m_pieces := PySem.W.mg_of X G a_pieces,
    a_block_octets := f_block_octets,
    fd_block_octets := _,
    F_block_octets := F_block_octets,
    b_block_octets := b_block_octets,
    m_block_octets := PySem.W.mg_of X G a_block_octets,
    a_read_block := f_read_block,
    fd_read_block := _,
    F_read_block := F_read_block,
    b_read_block := b_read_block,
    m_read_block := PySem.W.mg_of X G a_read_block,
    a_is_damaged := f_is_damaged,
    fd_is_damaged := _,
    F_is_damaged := F_is_damaged,
    b_is_damaged := b_is_damaged,
    m_is_damaged := PySem.W.mg_of X G a_is_damaged,
    a_body_octets := f_body_octets,
    fd_body_octets := _,
    F_body_octets := F_body_octets,
    b_body_octets := b_body_octets,
    m_body_octets := PySem.W.mg_of X G a_body_octets,
    a_read_body := f_read_body,
    fd_read_body := _,
    F_read_body := F_read_body,
    b_read_body := b_read_body,
    m_read_body := PySem.W.mg_of X G a_read_body,
    a_read_commit := f_read_commit,
    fd_read_commit := _,
    F_read_commit := F_read_commit,
    b_read_commit := b_read_commit,
    m_read_commit := PySem.W.mg_of X G a_read_commit,
    a_read_listed := f_read_listed,
    fd_read_listed := _,
    F_read_listed := F_read_listed,
    b_read_listed := b_read_listed,
    m_read_listed := PySem.W.mg_of X G a_read_listed,
    a_summary_head := f_summary_head,
    fd_summary_head := _,
    F_summary_head := F_summary_head,
    b_summary_head := b_summary_head,
    m_summary_head := PySem.W.mg_of X G a_summary_head,
    a_pairs := f_pairs,
    fd_pairs := _,
    F_pairs := F_pairs,
    b_pairs := b_pairs,
    m_pairs := PySem.W.mg_of X G a_pairs,
    a_read_pairs := f_read_pairs,
    fd_read_pairs := _,
    F_read_pairs := F_read_pairs,
    b_read_pairs := b_read_pairs,
    m_read_pairs := PySem.W.mg_of X G a_read_pairs,
    a_bits := f_bits,
    fd_bits := _,
    F_bits := F_bits,
    b_bits := b_bits,
    m_bits := PySem.W.mg_of X G a_bits,
    a_read_bits := f_read_bits,
    fd_read_bits := _,
    F_read_bits := F_read_bits,
    b_read_bits := b_read_bits,
    m_read_bits := PySem.W.mg_of X G a_read_bits,
    a_law_number := f_law_number,
    fd_law_number := _,
    F_law_number := F_law_number,
    b_law_number := b_law_number,
    m_law_number := PySem.W.mg_of X G a_law_number,
    a_law_take := f_law_take,
    fd_law_take := _,
    F_law_take := F_law_take,
    b_law_take := b_law_take,
    m_law_take := PySem.W.mg_of X G a_law_take,
    a_law_layout := f_law_layout,
    fd_law_layout := _,
    F_law_layout := F_law_layout,
    b_law_layout := b_law_layout,
    m_law_layout := PySem.W.mg_of X G a_law_layout,
    a_law_octets := f_law_octets,
    fd_law_octets := _,
    F_law_octets := F_law_octets,
    b_law_octets := b_law_octets,
    m_law_octets := PySem.W.mg_of X G a_law_octets,
    a_law_pairs := f_law_pairs,
    fd_law_pairs := _,
    F_law_pairs := F_law_pairs,
    b_law_pairs := b_law_pairs,
    m_law_pairs := PySem.W.mg_of X G a_law_pairs,
    a_law_bits := f_law_bits,
    fd_law_bits := _,
    F_law_bits := F_law_bits,
    b_law_bits := b_law_bits,
    m_law_bits := PySem.W.mg_of X G a_law_bits,
    a_law_body := f_law_body,
    fd_law_body := _,
    F_law_body := F_law_body,
    b_law_body := b_law_body,
    m_law_body := PySem.W.mg_of X G a_law_body,
    a_law_written := f_law_written,
    fd_law_written := _,
    F_law_written := F_law_written,
    b_law_written := b_law_written,
    m_law_written := PySem.W.mg_of X G a_law_written,
    a_law_numbers := f_law_numbers,
    fd_law_numbers := _,
    F_law_numbers := F_law_numbers,
    b_law_numbers := b_law_numbers,
    m_law_numbers := PySem.W.mg_of X G a_law_numbers,
    a_law_used := f_law_used,
    fd_law_used := _,
    F_law_used := F_law_used,
    b_law_used := b_law_used,
    m_law_used := PySem.W.mg_of X G a_law_used,
    a_law_block := f_law_block,
    fd_law_block := _,
    F_law_block := F_law_block,
    b_law_block := b_law_block,
    m_law_block := PySem.W.mg_of X G a_law_block,
    a_law_is_number := f_law_is_number,
    fd_law_is_number := _,
    F_law_is_number := F_law_is_number,
    b_law_is_number := b_law_is_number,
    m_law_is_number := PySem.W.mg_of X G a_law_is_number,
    a_law_is_row := f_law_is_row,
    fd_law_is_row := _,
    F_law_is_row := F_law_is_row,
    b_law_is_row := b_law_is_row,
    m_law_is_row := PySem.W.mg_of X G a_law_is_row,
    a_law_is_block := f_law_is_block,
    fd_law_is_block := _,
    F_law_is_block := F_law_is_block,
    b_law_is_block := b_law_is_block,
    m_law_is_block := PySem.W.mg_of X G a_law_is_block,
    a_law_list := f_law_list,
    fd_law_list := _,
    F_law_list := F_law_list,
    b_law_list := b_law_list,
    m_law_list := PySem.W.mg_of X G a_law_list,
    a_law_commit := f_law_commit,
    fd_law_commit := _,
    F_law_commit := F_law_commit,
    b_law_commit := b_law_commit,
    m_law_commit := PySem.W.mg_of X G a_law_commit,
    a_law_read := f_law_read,
    fd_law_read := _,
    F_law_read := F_law_read,
    b_law_read := b_law_read,
    m_law_read := PySem.W.mg_of X G a_law_read,
    a_law := fa,
    fd_law := _,
    F_law := F_law,
    b_law := b_law,
    m_law := PySem.W.mg_of X G a_law,
    A_Layout := C_Layout,
    m_Layout := PySem.W.mg_of X G mC_Layout,
    cl_Layout := ⟨pg_Layout, hd_Layout, po_Layout, sa_Layout⟩,
    M_Layout := ⟨mk_Layout, a_Layout___init, i_Layout___init, kc_Layout⟩,
    na_Layout_segments := na_Layout_segments,
    na_Layout_segment_blocks := na_Layout_segment_blocks,
    na_Layout_block_size := na_Layout_block_size,
    na_Layout_payload := na_Layout_payload,
    na_Layout_limit := na_Layout_limit,
    na_Layout_last_id := na_Layout_last_id,
    na_Layout_fan := na_Layout_fan,
    na_Layout_region_blocks := na_Layout_region_blocks,
    na_Layout_device_blocks := na_Layout_device_blocks,
    a_BLOCK_SIZES := k_BLOCK_SIZES,
    c_BLOCK_SIZES := PySem.W.mg_of X G q_BLOCK_SIZES,
    r_BLOCK_SIZES := rfl,
    v_BLOCK_SIZES := fun _ => .inr ⟨_, _, _, y_BLOCK_SIZES, rfl, rfl, Nat.le_of_ble_eq_true rfl, (.cons ⟨_, rfl⟩ (.cons ⟨_, rfl⟩ (.cons ⟨_, rfl⟩ .nil)))⟩,
    t_COMMIT := t_COMMIT,
    c_COMMIT := PySem.W.mg_of X G q_COMMIT,
    r_COMMIT := ⟨_, rfl⟩,
    t_DATA := t_DATA,
    c_DATA := PySem.W.mg_of X G q_DATA,
    r_DATA := ⟨_, rfl⟩,
    a_LETTERS := k_LETTERS,
    c_LETTERS := PySem.W.mg_of X G q_LETTERS,
    r_LETTERS := rfl,
    v_LETTERS := fun _ => .inr ⟨_, _, _, y_LETTERS, rfl, rfl, Nat.le_of_ble_eq_true rfl, (.cons ⟨_, rfl⟩ (.cons ⟨_, rfl⟩ (.cons ⟨_, rfl⟩ (.cons ⟨_, rfl⟩ .nil))))⟩,
    t_MOST_ACTION := t_MOST_ACTION,
    c_MOST_ACTION := PySem.W.mg_of X G q_MOST_ACTION,
    r_MOST_ACTION := ⟨_, rfl⟩,
    t_MOVE := t_MOVE,
    c_MOVE := PySem.W.mg_of X G q_MOVE,
    r_MOVE := ⟨_, rfl⟩,
    t_NODE := t_NODE,
    c_NODE := PySem.W.mg_of X G q_NODE,
    r_NODE := ⟨_, rfl⟩,
    t_PART := t_PART,
    c_PART := PySem.W.mg_of X G q_PART,
    r_PART := ⟨_, rfl⟩,
    t_SPARE_OCTETS := t_SPARE_OCTETS,
    c_SPARE_OCTETS := PySem.W.mg_of X G q_SPARE_OCTETS,
    r_SPARE_OCTETS := ⟨_, rfl⟩,
    t_SUMMARY_HEAD := t_SUMMARY_HEAD,
    c_SUMMARY_HEAD := PySem.W.mg_of X G q_SUMMARY_HEAD,
    r_SUMMARY_HEAD := ⟨_, rfl⟩,
    n_any := PySem.W.mg_none_of X G n_any,
    n_bool := PySem.W.mg_none_of X G n_bool,
    n_int := PySem.W.mg_none_of X G n_int,
    n_isinstance := PySem.W.mg_none_of X G n_isinstance,
    n_len := PySem.W.mg_none_of X G n_len,
    n_list := PySem.W.mg_none_of X G n_list,
    n_range := PySem.W.mg_none_of X G n_range,
    n_reversed := PySem.W.mg_none_of X G n_reversed,
    n_set := PySem.W.mg_none_of X G n_set,
    n_tuple := PySem.W.mg_none_of X G n_tuple }
  exact ⟨_, fun s v => .of_eq rfl, fun base _ _ => ok_law T⟩
theorem walk {l : PySem.W.OpenLaw} {q : Program} {loose : List Str} {XP : (Str → Option Value) → Heap → Prop} {YP : World → Heap → Prop} {d : DefRec} {K : Params → PySem.W.Frag} (hn : l.most = some 63) (hdf : d.params.defaults = [])
    (hY : ∀ (w : World) (h : Heap), YP w h → (K w.params).In h)
    (F : ∀ (w : World) (mg : Str → Option Value) (fa : Addr) (h : Heap), (K w.params).In h → h.Ns mainGlobals mg → mg d.name = some (.ref fa) →
      ∃ fd : FuncData, (∀ (s : Shared) (u : Value), BindsTo s fd ⟨[u], []⟩ [("script", u)]) ∧ ∀ base : Heap, (K w.params).In base → base.Ns mainGlobals mg → FnOk l.prog w (K w.params) mg base CX0 8 fa fd ["script"] (spLaw (K w.params))) :
    PySem.W.WalkO q loose XP YP l.row.toRowW d [] (fun f vs => PySem.call f vs) :=
  L2.walk_of (n := 63) (k := 8) (x := "script") (CX := fun _ => CX0) (sp := fun w => spLaw (K w.params)) hn (by decide) hdf ⟨rfl, by decide, by decide⟩ hY F (fun _ _ a ns hl hO hS => ⟨a, ns, rfl, hS, hl, fun _ => rfl⟩) fun _ _ _ _ _ z => z
end Sg

open PySem PySem.W PyProof.Rows in
set_option maxRecDepth 100000 in
set_option maxHeartbeats 0 in
theorem PySem.Challenge.cw_segmentfs_k66_damaged_octets_holds : PySem.Challenge.rw_segmentfs_k66_damaged_octets.Holds := by
  w_on; o_law; k_head; (case hw => w_witness2)
  k_fill
  refine Sg.walk (l := PySem.Challenge.rw_segmentfs_k66_damaged_octets) rfl rfl (fun w h Y => PySem.W.kIn_of Y) ?F
  case F =>
    intro w mg fa h KX G hmg
    refine' Sg.all_mk KX G hmg ?mC_Layout ?pg_Layout ?hd_Layout ?po_Layout ?sa_Layout ?mk_Layout ?kc_Layout ?na_Layout_segments ?na_Layout_segment_blocks ?na_Layout_block_size ?na_Layout_payload ?na_Layout_limit ?na_Layout_last_id ?na_Layout_fan ?na_Layout_region_blocks ?na_Layout_device_blocks ?a_Layout___init ?i_Layout___init ?l_Layout___init ?c_Layout___init ?k_Layout___init ?a_parts_of ?l_parts_of ?c_parts_of ?k_parts_of ?a_number_octets ?l_number_octets ?c_number_octets ?k_number_octets ?a_number_of ?l_number_of ?c_number_of ?k_number_of ?a_filled ?l_filled ?c_filled ?k_filled ?a_pieces ?l_pieces ?c_pieces ?k_pieces ?a_block_octets ?l_block_octets ?c_block_octets ?k_block_octets ?a_read_block ?l_read_block ?c_read_block ?k_read_block ?a_is_damaged ?l_is_damaged ?c_is_damaged ?k_is_damaged ?a_body_octets ?l_body_octets ?c_body_octets ?k_body_octets ?a_read_body ?l_read_body ?c_read_body ?k_read_body ?a_read_commit ?l_read_commit ?c_read_commit ?k_read_commit ?a_read_listed ?l_read_listed ?c_read_listed ?k_read_listed ?a_summary_head ?l_summary_head ?c_summary_head ?k_summary_head ?a_pairs ?l_pairs ?c_pairs ?k_pairs ?a_read_pairs ?l_read_pairs ?c_read_pairs ?k_read_pairs ?a_bits ?l_bits ?c_bits ?k_bits ?a_read_bits ?l_read_bits ?c_read_bits ?k_read_bits ?a_law_number ?l_law_number ?c_law_number ?k_law_number ?a_law_take ?l_law_take ?c_law_take ?k_law_take ?a_law_layout ?l_law_layout ?c_law_layout ?k_law_layout ?a_law_octets ?l_law_octets ?c_law_octets ?k_law_octets ?a_law_pairs ?l_law_pairs ?c_law_pairs ?k_law_pairs ?a_law_bits ?l_law_bits ?c_law_bits ?k_law_bits ?a_law_body ?l_law_body ?c_law_body ?k_law_body ?a_law_written ?l_law_written ?c_law_written ?k_law_written ?a_law_numbers ?l_law_numbers ?c_law_numbers ?k_law_numbers ?a_law_used ?l_law_used ?c_law_used ?k_law_used ?a_law_block ?l_law_block ?c_law_block ?k_law_block ?a_law_is_number ?l_law_is_number ?c_law_is_number ?k_law_is_number ?a_law_is_row ?l_law_is_row ?c_law_is_row ?k_law_is_row ?a_law_is_block ?l_law_is_block ?c_law_is_block ?k_law_is_block ?a_law_list ?l_law_list ?c_law_list ?k_law_list ?a_law_commit ?l_law_commit ?c_law_commit ?k_law_commit ?a_law_read ?l_law_read ?c_law_read ?k_law_read ?a_law ?l_law ?c_law ?k_law ?q_BLOCK_SIZES ?y_BLOCK_SIZES ?q_COMMIT ?q_DATA ?q_LETTERS ?y_LETTERS ?q_MOST_ACTION ?q_MOVE ?q_NODE ?q_PART ?q_SPARE_OCTETS ?q_SUMMARY_HEAD ?n_any ?n_bool ?n_int ?n_isinstance ?n_len ?n_list ?n_range ?n_reversed ?n_set ?n_tuple
    (case mC_Layout => k_is)
    (case pg_Layout => k_is)
    (case hd_Layout => k_is)
    (case po_Layout => k_is)
    (case sa_Layout => k_is)
    (case mk_Layout => k_is)
    (case kc_Layout => k_is)
    (case na_Layout_segments => k_is)
    (case na_Layout_segment_blocks => k_is)
    (case na_Layout_block_size => k_is)
    (case na_Layout_payload => k_is)
    (case na_Layout_limit => k_is)
    (case na_Layout_last_id => k_is)
    (case na_Layout_fan => k_is)
    (case na_Layout_region_blocks => k_is)
    (case na_Layout_device_blocks => k_is)
    (case a_Layout___init => k_is)
    (case i_Layout___init => k_is)
    (case l_Layout___init => k_is)
    (case c_Layout___init => k_is)
    (case k_Layout___init => k_is)
    (case a_parts_of => k_is)
    (case l_parts_of => k_is)
    (case c_parts_of => k_is)
    (case k_parts_of => k_is)
    (case a_number_octets => k_is)
    (case l_number_octets => k_is)
    (case c_number_octets => k_is)
    (case k_number_octets => k_is)
    (case a_number_of => k_is)
    (case l_number_of => k_is)
    (case c_number_of => k_is)
    (case k_number_of => k_is)
    (case a_filled => k_is)
    (case l_filled => k_is)
    (case c_filled => k_is)
    (case k_filled => k_is)
    (case a_pieces => k_is)
    (case l_pieces => k_is)
    (case c_pieces => k_is)
    (case k_pieces => k_is)
    (case a_block_octets => k_is)
    (case l_block_octets => k_is)
    (case c_block_octets => k_is)
    (case k_block_octets => k_is)
    (case a_read_block => k_is)
    (case l_read_block => k_is)
    (case c_read_block => k_is)
    (case k_read_block => k_is)
    (case a_is_damaged => k_is)
    (case l_is_damaged => k_is)
    (case c_is_damaged => k_is)
    (case k_is_damaged => k_is)
    (case a_body_octets => k_is)
    (case l_body_octets => k_is)
    (case c_body_octets => k_is)
    (case k_body_octets => k_is)
    (case a_read_body => k_is)
    (case l_read_body => k_is)
    (case c_read_body => k_is)
    (case k_read_body => k_is)
    (case a_read_commit => k_is)
    (case l_read_commit => k_is)
    (case c_read_commit => k_is)
    (case k_read_commit => k_is)
    (case a_read_listed => k_is)
    (case l_read_listed => k_is)
    (case c_read_listed => k_is)
    (case k_read_listed => k_is)
    (case a_summary_head => k_is)
    (case l_summary_head => k_is)
    (case c_summary_head => k_is)
    (case k_summary_head => k_is)
    (case a_pairs => k_is)
    (case l_pairs => k_is)
    (case c_pairs => k_is)
    (case k_pairs => k_is)
    (case a_read_pairs => k_is)
    (case l_read_pairs => k_is)
    (case c_read_pairs => k_is)
    (case k_read_pairs => k_is)
    (case a_bits => k_is)
    (case l_bits => k_is)
    (case c_bits => k_is)
    (case k_bits => k_is)
    (case a_read_bits => k_is)
    (case l_read_bits => k_is)
    (case c_read_bits => k_is)
    (case k_read_bits => k_is)
    (case a_law_number => k_is)
    (case l_law_number => k_is)
    (case c_law_number => k_is)
    (case k_law_number => k_is)
    (case a_law_take => k_is)
    (case l_law_take => k_is)
    (case c_law_take => k_is)
    (case k_law_take => k_is)
    (case a_law_layout => k_is)
    (case l_law_layout => k_is)
    (case c_law_layout => k_is)
    (case k_law_layout => k_is)
    (case a_law_octets => k_is)
    (case l_law_octets => k_is)
    (case c_law_octets => k_is)
    (case k_law_octets => k_is)
    (case a_law_pairs => k_is)
    (case l_law_pairs => k_is)
    (case c_law_pairs => k_is)
    (case k_law_pairs => k_is)
    (case a_law_bits => k_is)
    (case l_law_bits => k_is)
    (case c_law_bits => k_is)
    (case k_law_bits => k_is)
    (case a_law_body => k_is)
    (case l_law_body => k_is)
    (case c_law_body => k_is)
    (case k_law_body => k_is)
    (case a_law_written => k_is)
    (case l_law_written => k_is)
    (case c_law_written => k_is)
    (case k_law_written => k_is)
    (case a_law_numbers => k_is)
    (case l_law_numbers => k_is)
    (case c_law_numbers => k_is)
    (case k_law_numbers => k_is)
    (case a_law_used => k_is)
    (case l_law_used => k_is)
    (case c_law_used => k_is)
    (case k_law_used => k_is)
    (case a_law_block => k_is)
    (case l_law_block => k_is)
    (case c_law_block => k_is)
    (case k_law_block => k_is)
    (case a_law_is_number => k_is)
    (case l_law_is_number => k_is)
    (case c_law_is_number => k_is)
    (case k_law_is_number => k_is)
    (case a_law_is_row => k_is)
    (case l_law_is_row => k_is)
    (case c_law_is_row => k_is)
    (case k_law_is_row => k_is)
    (case a_law_is_block => k_is)
    (case l_law_is_block => k_is)
    (case c_law_is_block => k_is)
    (case k_law_is_block => k_is)
    (case a_law_list => k_is)
    (case l_law_list => k_is)
    (case c_law_list => k_is)
    (case k_law_list => k_is)
    (case a_law_commit => k_is)
    (case l_law_commit => k_is)
    (case c_law_commit => k_is)
    (case k_law_commit => k_is)
    (case a_law_read => k_is)
    (case l_law_read => k_is)
    (case c_law_read => k_is)
    (case k_law_read => k_is)
    (case a_law => k_is)
    (case l_law => k_is)
    (case c_law => k_is)
    (case k_law => k_is)
    (case q_BLOCK_SIZES => k_is)
    (case y_BLOCK_SIZES => k_is)
    (case q_COMMIT => k_is)
    (case q_DATA => k_is)
    (case q_LETTERS => k_is)
    (case y_LETTERS => k_is)
    (case q_MOST_ACTION => k_is)
    (case q_MOVE => k_is)
    (case q_NODE => k_is)
    (case q_PART => k_is)
    (case q_SPARE_OCTETS => k_is)
    (case q_SUMMARY_HEAD => k_is)
    (case n_any => k_is)
    (case n_bool => k_is)
    (case n_int => k_is)
    (case n_isinstance => k_is)
    (case n_len => k_is)
    (case n_list => k_is)
    (case n_range => k_is)
    (case n_reversed => k_is)
    (case n_set => k_is)
    (case n_tuple => k_is)

