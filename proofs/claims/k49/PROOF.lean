import PyProof.Rows.All
import Wide.All
import OpenK.AllK
import Wide.FinOn
import HandS.ForMost
import HandS.IsInst
import HandS.Style
import HandS.Wide
import HandS.Codes
import HandS.NoneIn
import HandS.Defaults
import HandS.TupMul
import HandS.Zip
import HandS.SetFor
import HandS.SetKeys
import HandS.Walk
import HandS.Codes
import HandS.Text
import HandS.AnyAll
import HandS.WideBits
import HandS.Iter
import KE.GoesEnum
import PySem.Challenge.RW_segmentfs_k49_entries_as_octets
set_option Elab.async false
set_option maxRecDepth 100000
set_option maxHeartbeats 4000000
/-! what every text of mine begins with: heaps that grow, and a rule for each head that a reading has -/
namespace Sg
open PySem L2
theorem sz : sizeLine = 16777216 := by decide
theorem Same.of_new {H H' : Hp} {p : Addr} {o : HO} (e : upd H p o = H') (h : H p = none) : Same H H' := fun b u q => by
  rw [← e, upd_ne (ne_of_none q h)]; exact q
theorem at_new {H H' : Hp} {p : Addr} {o : HO} (e : upd H p o = H') : H' p = some o := by rw [← e]; exact upd_same
theorem Same.tup {K : PySem.W.Frag} {H H' : Hp} {a : Addr} {xs : List V} (e : Same H H') (h : SqT K H a xs) : SqT K H' a xs := by
  rcases h with (h | ⟨o, h⟩) | h
  · exact .inl (.inl (e _ _ h))
  · exact .inl (.inr ⟨o, e _ _ h⟩)
  · exact .inr h
/-- an object that is younger than H0 is changed -/
theorem Same.old {H0 H H' : Hp} {p : Addr} {o : HO} (s : Same H0 H) (h : H0 p = none) (e : upd H p o = H') : Same H0 H' := fun b u q => by
  rw [← e, upd_ne (ne_of_none q h)]; exact s _ _ q
theorem at_keep {H H' : Hp} {l a : Addr} {o o' ol : HO} (e : upd H l o' = H') (h : H a = some o) (h' : H l = some ol) (d : o ≠ ol) : H' a = some o := by
  rw [← e, upd_ne (ne_of h h' d)]; exact h
theorem lk_eq {f : Str} {v : V} {fs : List (Str × V)} : (putF f v fs).lookup f = some v := by rw [lookup_putF, if_pos rfl]
theorem lk_ne {f g : Str} {v x : V} {fs : List (Str × V)} (h : ¬ g = f) (q : fs.lookup g = some v) : (putF f x fs).lookup g = some v := by rw [lookup_putF, if_neg h]; exact q
theorem lk_no {f g : Str} {x : V} {fs : List (Str × V)} (h : ¬ g = f) (q : fs.lookup g = none) : (putF f x fs).lookup g = none := by rw [lookup_putF, if_neg h]; exact q
theorem putF_len {f : Str} {v : V} : ∀ {fs : List (Str × V)} {n : Nat}, fs.length ≤ n → (putF f v fs).length ≤ n + 1
  | [], n, _ => by simp [putF]
  | (g, x) :: r, n, h => by
    unfold putF
    split
    · simp at h ⊢; omega
    · cases n with
      | zero => simp at h
      | succ n =>
        simp at h ⊢
        exact putF_len h
theorem to_ite {A B : Prop} {b : Bool} (h1 : b = true → A) (h2 : b = false → B) : if b = true then A else B := by
  cases b with
  | true => exact iteT (h1 rfl)
  | false => exact iteF (h2 rfl)
theorem iteT' {A B : Prop} (h : A) : if (true : Bool) = true then A else B := iteT h
theorem iteF' {A B : Prop} (h : B) : if (false : Bool) = true then A else B := iteF h
theorem r_iteb {A B : Prop} {b : Bool} (hb : b = true) (h : A) : if b = true then A else B := to_ite (fun _ => h) fun z => by rw [hb] at z; cases z
theorem r_iteB {A B : Prop} {b : Bool} (hb : b = false) (h : B) : if b = true then A else B := to_ite (fun z => by rw [hb] at z; cases z) fun _ => h
theorem r_ite {A B c : Prop} [Decidable c] (h1 : c → A) (h2 : ¬ c → B) : if decide c = true then A else B :=
  to_ite (fun h => h1 (of_decide_eq_true h)) (fun h => h2 (of_decide_eq_false h))
theorem r_iteN {A B c : Prop} [Decidable c] (h1 : ¬ c → A) (h2 : c → B) : if (!decide c) = true then A else B :=
  to_ite (fun h => h1 (by simpa using h)) (fun h => h2 (by simpa using h))
theorem r_iteD {A B c : Prop} [Decidable c] (hc : c) (h : A) : if decide c = true then A else B := r_ite (fun _ => h) fun z => absurd hc z
theorem r_iteDn {A B c : Prop} [Decidable c] (hc : ¬ c) (h : B) : if decide c = true then A else B := r_ite (fun z => absurd z hc) fun _ => h
theorem r_iteND {A B c : Prop} [Decidable c] (hc : ¬ c) (h : A) : if (!decide c) = true then A else B := r_iteN (fun _ => h) fun z => absurd z hc
theorem r_iteNDn {A B c : Prop} [Decidable c] (hc : c) (h : B) : if (!decide c) = true then A else B := r_iteN (fun z => absurd hc z) fun _ => h
/-- the continuations of a reading, by name -/
def kTest (QB : Bool → Hp → Prop) : V → Hp → Prop := fun x H => ∃ k, x = .bl k ∧ QB k H
def kFld (K : PySem.W.Frag) (f : Str) (Q : V → Hp → Prop) : V → Hp → Prop := fun x H => ∃ a C dx fs v, x = .ref a ∧ H a = some (.ins C dx fs) ∧ Cls K C ∧ NoAttr K C f ∧ fs.lookup f = some v ∧ Q v H
def kSfld (K : PySem.W.Frag) (D : Ends) (σ : L2.St) (f : Str) (y : V) : V → Hp → Prop := fun x H => ∃ a C dx fs, x = .ref a ∧ H a = some (.ins C dx fs) ∧ Cls K C ∧ NoAttr K C f ∧ fs.length < 1000 ∧
  D.nx σ (upd H a (.ins C dx (putF f y fs)))
def kMeth (C : Addr) (m : Str) (sp : Sp) (dvs : List V) (E : XK) (σ : L2.St) (t : TA) (Q : V → Hp → Prop) : V → Hp → Prop := fun x H => ∃ a dx fs, x = .ref a ∧ H a = some (.ins C dx fs) ∧ fs.lookup m = none ∧ t σ H fun vs H2 => sp (x :: (vs ++ dvs)) H2 Q E
def kTup (Q : V → Hp → Prop) : List V → Hp → Prop := fun xs H => xs.length ≤ sizeLine ∧ ∀ p, H p = none → Q (.ref p) (upd H p (.tup xs))
def kLst (Q : V → Hp → Prop) : List V → Hp → Prop := fun xs H => xs.length ≤ sizeLine ∧ ∀ p, H p = none → Q (.ref p) (upd H p (.lst xs))
def rLen (K : PySem.W.Frag) : List V → Hp → (V → Hp → Prop) → Prop := fun xs H Q => ∃ p ys, xs = [.ref p] ∧ (SqL K H p ys ∨ SqT K H p ys) ∧ Q (.int ys.length) H
theorem c_len {X : Cx} : CallR X (.builtin "len") (rLen X.K) := call_len_seq
def rInt : List V → Hp → (V → Hp → Prop) → Prop := fun xs H Q => (∃ i, xs = [.int i] ∧ Q (.int i) H) ∨ ∃ k, xs = [.bl k] ∧ Q (.int (if k then 1 else 0)) H
theorem c_int {X : Cx} : CallR X (.type "int") rInt := call_int1
def rListOf (K : PySem.W.Frag) : List V → Hp → (V → Hp → Prop) → Prop := fun xs H Q => ∃ p ys, xs = [.ref p] ∧ (SqL K H p ys ∨ SqT K H p ys) ∧ ∀ l, H l = none → Q (.ref l) (upd H l (.lst ys))
theorem c_list {X : Cx} : CallR X (.type "list") (rListOf X.K) := call_list_of
def rTupOf (K : PySem.W.Frag) : List V → Hp → (V → Hp → Prop) → Prop := fun xs H Q => ∃ p ys, xs = [.ref p] ∧ ((SqL K H p ys ∧ ∀ l, H l = none → Q (.ref l) (upd H l (.tup ys))) ∨ (SqT K H p ys ∧ Q (.ref p) H))
theorem c_tuple {X : Cx} : CallR X (.type "tuple") (rTupOf X.K) := call_tuple_of
/-! the same rules within a comprehension: the written part by its own name -/
section
variable {X : Cx}
theorem c_listK (K : PySem.W.Frag) (h : X.K = K) : CallR X (.type "list") (rListOf K) := by subst h; exact c_list
theorem c_tupleK (K : PySem.W.Frag) (h : X.K = K) : CallR X (.type "tuple") (rTupOf K) := by subst h; exact c_tuple
theorem c_lenK (K : PySem.W.Frag) (h : X.K = K) : CallR X (.builtin "len") (rLen K) := by subst h; exact c_len
theorem ix_listK (K : PySem.W.Frag) (h : X.K = K) : IxR X (rIxL K) := by subst h; exact ix_list
theorem ix_tupK (K : PySem.W.Frag) (h : X.K = K) : IxR X (rIxT K) := by subst h; exact ix_tup
theorem op_in_seqK (K : PySem.W.Frag) (h : X.K = K) : OpR X (compareOp .In) (rIn K false) := by subst h; exact op_in_seq
theorem op_notIn_seqK (K : PySem.W.Frag) (h : X.K = K) : OpR X (compareOp .NotIn) (rIn K true) := by subst h; exact op_notIn_seq
theorem pe_fldK (K : PySem.W.Frag) (h : X.K = K) {e : Expr} {f : Str} {pos : Pos} {ta : TE} (he : PE X e ta) (hb : attributeBase e f X.env (eval e X.env) = eval e X.env) : PE X (.Attribute e f pos) (tFld K ta f) := by subst h; exact pe_fld he hb
end
section
variable {σ : L2.St} {H : Hp} {D : Ends} {t u : TS} {te ta tb tc : TE} {g : TG} {c ct cu : TT} {Q : VK} {QB : Bool → Hp → Prop} {QS : L2.St → Hp → Prop} {QA : List V → Hp → Prop} {v x y : V} {K : PySem.W.Frag} {a p l : Addr} {xs ys : List V} {i j : Int} {b : Bool}
theorem r_seq (h : t { D with nx := u D } σ H) : tSeq t u D σ H := h
theorem r_cut (Mid : L2.St → Hp → Prop) (h1 : t { D with nx := Mid } σ H) (h2 : ∀ σ' H', Mid σ' H' → u D σ' H') : C8.tCut t u D σ H := ⟨Mid, h1, h2⟩
/-- a test with nothing kept behind it -/
theorem r_cutS (h1 : t { D with nx := fun σ' H' => σ = σ' ∧ H = H' } σ H) (h2 : u D σ H) : C8.tCut t u D σ H := ⟨_, h1, fun _ _ ⟨e1, e2⟩ => by subst e1; subst e2; exact h2⟩
/-- .. but a heap that grew -/
theorem r_cutH (h1 : t { D with nx := fun σ' H' => σ = σ' ∧ L2.Same H H' } σ H) (h2 : ∀ H', L2.Same H H' → u D σ H') : C8.tCut t u D σ H := ⟨_, h1, fun _ _ ⟨e1, e2⟩ => by subst e1; exact h2 _ e2⟩
theorem r_asg (h : te σ H fun x H1 => g x σ H1 D.nx) : tAsg te g D σ H := h
theorem r_drop (h : te σ H fun _ H1 => D.nx σ H1) : tDrop te D σ H := h
theorem r_ret (h : te σ H D.rt) : tRet te D σ H := h
theorem r_ifs (h : c σ H fun b H1 => if b = true then t D σ H1 else u D σ H1) : tIfS c t u D σ H := h
theorem r_next (h : D.nx σ H) : tNext D σ H := h
theorem r_gname {n : Nat} (h : QS (σ.set n (some v)) H) : gName n v σ H QS := h
theorem r_gtup {n : Nat} {t : TGs} (hx : SqT K H a xs) (hl : xs.length = n) (h : t xs σ H QS) : gTup K n t (.ref a) σ H QS := ⟨a, xs, rfl, hx, hl, h⟩
theorem r_gunl {n : Nat} {t : TGs} (hx : SqL K H a xs) (hl : xs.length = n) (h : t xs σ H QS) : gUnl K n t (.ref a) σ H QS := ⟨a, xs, rfl, hx, hl, h⟩
theorem r_chain {r r' : R2} (h : ta σ H fun x H1 => tb σ H1 fun y H2 => r x y H2 fun z H3 => ∃ k, z = .bl k ∧ (if k = true then tc σ H3 fun w' H4 => r' y w' H4 Q else Q (.bl false) H3)) : tChain r r' ta tb tc σ H Q := h
theorem r_sfldL {C dx : Addr} {fs : List (Str × V)} {f : Str} (h : H a = some (.ins C dx fs)) (hc : Cls K C) (hn : NoAttr K C f) (hl : fs.length < 1000) (q : D.nx σ (upd H a (.ins C dx (putF f y fs)))) : kSfld K D σ f y (.ref a) H := ⟨a, C, dx, fs, rfl, h, hc, hn, hl, q⟩
theorem r_gmap {α : Type} {f : α → V} {y : α} {r : List α} {t : TG} {u : TGs} (h : t (f y) σ H fun σ' H' => u (List.map f r) σ' H' QS) : gCons t u (List.map f (y :: r)) σ H QS := ⟨_, _, rfl, h⟩
theorem r_gmapn {α : Type} {f : α → V} (h : QS σ H) : gNil (List.map f []) σ H QS := ⟨rfl, h⟩
theorem r_gnil (h : QS σ H) : gNil [] σ H QS := ⟨rfl, h⟩
theorem r_gcons {t : TG} {u : TGs} {r : List V} (h : t v σ H fun σ' H' => u r σ' H' QS) : gCons t u (v :: r) σ H QS := ⟨v, r, rfl, h⟩
theorem r_gsub {t : TSet} (h : ta σ H fun o H1 => tb σ H1 fun i H2 => t o i v H2 fun H3 => QS σ H3) : gSub ta tb t v σ H QS := h
theorem r_setl {k : Int} {n : Nat} {R : Hp → Prop} (h1 : H p = some (.lst xs)) (h2 : ixN xs.length k = some n) (q : R (upd H p (.lst (xs.set n v)))) : rSetL (.ref p) (.int k) v H R := ⟨p, xs, k, n, rfl, rfl, h1, h2, q⟩
theorem r_var {n : Nat} (h : σ[n]? = some (some v)) (q : Q v H) : tVar n σ H Q := ⟨v, h, q⟩
theorem r_c (q : Q v H) : tC v σ H Q := q
theorem r_op {r : R2} (h : ta σ H fun x H1 => tb σ H1 fun y H2 => r x y H2 Q) : tOp r ta tb σ H Q := h
theorem r_un {r : V → Hp → VK → Prop} (h : ta σ H fun x H1 => r x H1 Q) : tUn r ta σ H Q := h
theorem r_rI {C : Int → Int → Prop} {g : Int → Int → V} (hc : C i j) (q : Q (g i j) H) : rI C g (.int i) (.int j) H Q := ⟨i, j, rfl, rfl, hc, q⟩
theorem r_mod (hc : 0 < j) (q : ∀ z : Int, z = i % j → 0 ≤ z → z < j → Q (.int z) H) : rI (fun _ j => 0 < j) (fun i j => .int (i % j)) (.int i) (.int j) H Q :=
  ⟨i, j, rfl, rfl, hc, q _ rfl (Int.emod_nonneg i (by omega)) (Int.emod_lt_of_pos i hc)⟩
theorem r_rI0 {g : Int → Int → V} (q : Q (g i j) H) : rI0 g (.int i) (.int j) H Q := ⟨i, j, rfl, rfl, q⟩
theorem r_rU {g : Int → V} (q : Q (g i) H) : rU g (.int i) H Q := ⟨i, rfl, q⟩
theorem r_eq (hs : scal x y = true) (q : Q (.bl (decide (x = y))) H) : rEq x y H Q := ⟨hs, q⟩
theorem r_ne (hs : scal x y = true) (q : Q (.bl (!decide (x = y))) H) : rNe x y H Q := ⟨hs, q⟩
theorem r_eqi (q : Q (.bl (decide (i = j))) H) : rEq (.int i) (.int j) H Q := ⟨rfl, by
  rw [show decide (V.int i = V.int j) = decide (i = j) from by by_cases e : i = j <;> simp [e]]; exact q⟩
theorem r_nei (q : Q (.bl (!decide (i = j))) H) : rNe (.int i) (.int j) H Q := ⟨rfl, by
  rw [show decide (V.int i = V.int j) = decide (i = j) from by by_cases e : i = j <;> simp [e]]; exact q⟩
theorem r_eqs {s t : Str} (q : Q (.bl (decide (s = t))) H) : rEq (.str s) (.str t) H Q := ⟨rfl, by
  rw [show decide (V.str s = V.str t) = decide (s = t) from by by_cases e : s = t <;> simp [e]]; exact q⟩
theorem r_nes {s t : Str} (q : Q (.bl (!decide (s = t))) H) : rNe (.str s) (.str t) H Q := ⟨rfl, by
  rw [show decide (V.str s = V.str t) = decide (s = t) from by by_cases e : s = t <;> simp [e]]; exact q⟩
theorem r_adds {s t : Str} (hz : s.length + t.length ≤ 1000000) (q : Q (.str (s ++ t)) H) : (fun (x y : V) (H : Hp) (Q : VK) => ∃ i j, x = .str i ∧ y = .str j ∧ i.length + j.length ≤ sizeLine ∧ Q (.str (i ++ j)) H) (.str s) (.str t) H Q := ⟨s, t, rfl, rfl, by rw [sz]; omega, q⟩
theorem r_nonR {A B : Prop} (h : A) : if (!decide (V.ref a = V.non)) = true then A else B := iteT' h
theorem r_nonN {A B : Prop} (h : B) : if (!decide (V.non = V.non)) = true then A else B := iteF' h
theorem r_isR {A B : Prop} (h : B) : if decide (V.ref a = V.non) = true then A else B := iteF' h
theorem r_isNN {A B : Prop} (h : A) : if decide (V.non = V.non) = true then A else B := iteT' h
theorem r_nonI {A B : Prop} (h : A) : if (!decide (V.int i = V.non)) = true then A else B := iteT' h
theorem r_isI {A B : Prop} (h : B) : if decide (V.int i = V.non) = true then A else B := iteF' h
theorem r_eqb {a b : Bool} (q : Q (.bl (decide (a = b))) H) : rEq (.bl a) (.bl b) H Q := ⟨rfl, by
  rw [show decide (V.bl a = V.bl b) = decide (a = b) from by by_cases e : a = b <;> simp [e]]; exact q⟩
theorem r_isS {A B : Prop} {z : Str} (h : B) : if decide (V.str z = V.non) = true then A else B := iteF' h
theorem r_nonS {A B : Prop} {z : Str} (h : A) : if (!decide (V.str z = V.non)) = true then A else B := iteT' h
theorem r_nil (q : QA [] H) : tNil σ H QA := q
theorem r_cons {tr : TA} (h : ta σ H fun x H1 => tr σ H1 fun xs H2 => QA (x :: xs) H2) : tCons ta tr σ H QA := h
theorem r_cb {r : List V → Hp → VK → Prop} {t : TA} (h : t σ H fun vs H1 => r vs H1 Q) : tCB r t σ H Q := h
theorem r_call {sp : Sp} {dvs : List V} {E : XK} {t : TA} (h : t σ H fun vs H1 => sp (vs ++ dvs) H1 Q E) : tCall sp dvs E t σ H Q := h
theorem r_make {C : Addr} {sp : Sp} {dvs : List V} {E : XK} {t : TA} (h : t σ H fun vs H1 => ∀ x dx, H1 x = none → H1 dx = none → dx ≠ x →
  sp (.ref x :: (vs ++ dvs)) (upd (upd H1 dx (.own x)) x (.ins C dx [])) (fun v H2 => v = .non ∧ Q (.ref x) H2) E) : tMake C sp dvs E t σ H Q := h
theorem r_meth {C : Addr} {m : Str} {sp : Sp} {dvs : List V} {E : XK} {t : TA} (h : ta σ H (kMeth C m sp dvs E σ t Q)) : tMeth C m sp dvs E ta t σ H Q := h
theorem r_methL {C : Addr} {dx : Addr} {fs : List (Str × V)} {m : Str} {sp : Sp} {dvs : List V} {E : XK} {t : TA} (h : H a = some (.ins C dx fs)) (hl : fs.lookup m = none) (q : t σ H fun vs H2 => sp (.ref a :: (vs ++ dvs)) H2 Q E) : kMeth C m sp dvs E σ t Q (.ref a) H := ⟨a, dx, fs, rfl, h, hl, q⟩
theorem r_fld {f : Str} (h : ta σ H (kFld K f Q)) : tFld K ta f σ H Q := h
theorem r_fldL {C dx : Addr} {fs : List (Str × V)} {f : Str} (h : H a = some (.ins C dx fs)) (hc : Cls K C) (hn : NoAttr K C f) (hl : fs.lookup f = some v) (q : Q v H) : kFld K f Q (.ref a) H := ⟨a, C, dx, fs, v, rfl, h, hc, hn, hl, q⟩
theorem r_sfld {f : Str} (h : tb σ H fun y H1 => ta σ H1 (kSfld K D σ f y)) : sFld K ta tb f D σ H := h
theorem r_test (h : te σ H (kTest QB)) : tTest te σ H QB := h
theorem r_tB (h : te σ H (kTest QB)) : tB te σ H QB := h
theorem r_exb (q : QB b H) : kTest QB (.bl b) H := ⟨b, rfl, q⟩
theorem r_and (h : ct σ H fun c H1 => if c = true then cu σ H1 QB else QB false H1) : tAnd ct cu σ H QB := h
theorem r_or (h : ct σ H fun c H1 => if c = true then QB true H1 else cu σ H1 QB) : tOr ct cu σ H QB := h
theorem r_not (h : ct σ H fun c H1 => QB (!c) H1) : tNot ct σ H QB := h
theorem r_andV (h : ta σ H fun x H1 => ∃ c, x = .bl c ∧ if c = true then tb σ H1 Q else Q (.bl false) H1) : tAndV ta tb σ H Q := h
theorem r_orV (h : ta σ H fun x H1 => ∃ c, x = .bl c ∧ if c = true then Q (.bl true) H1 else tb σ H1 Q) : tOrV ta tb σ H Q := h
theorem r_exbP {A : Bool → Prop} (q : A b) : ∃ c, V.bl b = .bl c ∧ A c := ⟨b, rfl, q⟩
theorem r_notV (h : ta σ H fun x H1 => ∃ c, x = .bl c ∧ Q (.bl (!c)) H1) : tNotV ta σ H Q := h
theorem r_tif (h : c σ H fun b H1 => if b = true then ta σ H1 Q else tb σ H1 Q) : tIf c ta tb σ H Q := h
theorem r_isN (h : ta σ H fun x H1 => Q (.bl (decide (x = .non))) H1) : tIsN ta σ H Q := h
theorem r_notN (h : ta σ H fun x H1 => Q (.bl (!decide (x = .non))) H1) : tNotN ta σ H Q := h
theorem r_tup {t : TA} (h : t σ H (kTup Q)) : tTup t σ H Q := h
theorem r_lst {t : TA} (h : t σ H (kLst Q)) : tLst t σ H Q := h
theorem r_ktup (hl : xs.length ≤ sizeLine) (h : ∀ p, H p = none → Q (.ref p) (upd H p (.tup xs))) : kTup Q xs H := ⟨hl, h⟩
theorem r_klst (hl : xs.length ≤ sizeLine) (h : ∀ p, H p = none → Q (.ref p) (upd H p (.lst xs))) : kLst Q xs H := ⟨hl, h⟩
theorem r_ixl (h : SqL K H p xs) (e : atI xs i = some v) (q : Q v H) : rIxL K (.ref p) (.int i) H Q := ⟨p, xs, i, v, rfl, rfl, h, e, q⟩
theorem r_ixt (h : SqT K H p xs) (e : atI xs i = some v) (q : Q v H) : rIxT K (.ref p) (.int i) H Q := ⟨p, xs, i, v, rfl, rfl, h, e, q⟩
theorem r_int (q : Q (.int i) H) : rInt [V.int i] H Q := .inl ⟨i, rfl, q⟩
theorem r_lenl (h : SqL K H p xs) (q : Q (.int xs.length) H) : rLen K [V.ref p] H Q := ⟨p, xs, rfl, .inl h, q⟩
theorem r_lent (h : SqT K H p xs) (q : Q (.int xs.length) H) : rLen K [V.ref p] H Q := ⟨p, xs, rfl, .inr h, q⟩
theorem r_listl (h : SqL K H p xs) (q : ∀ l, H l = none → Q (.ref l) (upd H l (.lst xs))) : rListOf K [V.ref p] H Q := ⟨p, xs, rfl, .inl h, q⟩
theorem r_listt (h : SqT K H p xs) (q : ∀ l, H l = none → Q (.ref l) (upd H l (.lst xs))) : rListOf K [V.ref p] H Q := ⟨p, xs, rfl, .inr h, q⟩
theorem r_tupl (h : SqL K H p xs) (q : ∀ l, H l = none → Q (.ref l) (upd H l (.tup xs))) : rTupOf K [V.ref p] H Q := ⟨p, xs, rfl, .inl ⟨h, q⟩⟩
theorem r_tupt (h : SqT K H p xs) (q : Q (.ref p) H) : rTupOf K [V.ref p] H Q := ⟨p, xs, rfl, .inr ⟨h, q⟩⟩
theorem r_in {neg : Bool} (h : SqL K H p xs ∨ SqT K H p xs) (fx : flatV x = true) (fs : xs.all flatV = true) (q : Q (.bl (if neg = true then !inV x xs else inV x xs)) H) : rIn K neg x (.ref p) H Q := ⟨p, xs, rfl, h, fx, fs, q⟩
theorem r_bm {T : String} {r : V → List V → Hp → VK → Prop} {t : TA} (h : ta σ H fun x H1 => tyV K T x H1 ∧ t σ H1 fun xs H2 => r x xs H2 Q) : tBM K T r ta t σ H Q := h
theorem r_bm0 {T : String} {r : V → List V → Hp → VK → Prop} (h : ta σ H fun x H1 => tyV K T x H1 ∧ r x [] H1 Q) : tBM0 K T r ta σ H Q := h
theorem r_tyl {A : Prop} (h : SqL K H l xs) (q : A) : tyV K "list" (.ref l) H ∧ A := ⟨.inl ⟨rfl, _, h⟩, q⟩
theorem r_app (h : H l = some (.lst xs)) (hl : xs.length < sizeLine) (q : Q .non (upd H l (.lst (xs ++ [v])))) : rAppend (.ref l) [v] H Q := ⟨l, xs, v, rfl, rfl, h, hl, q⟩
theorem r_isi {c : V} {t u : Value} (hc : ClsV c u) (ht : TyX K H x t) (hk : PySem.W.kitOne K t u = some b) (q : Q (.bl b) H) : rIsi K [x, c] H Q := ⟨x, c, t, u, b, rfl, hc, ht, hk, q⟩
theorem r_isb {a b : Bool} (q : Q (.bl (decide (a = b))) H) : rIsB (.bl a) (.bl b) H Q := ⟨a, b, rfl, rfl, q⟩
theorem r_notb {a b : Bool} (q : Q (.bl (!decide (a = b))) H) : rNotB (.bl a) (.bl b) H Q := ⟨a, b, rfl, rfl, q⟩
theorem r_eqd {d e : PyData} (h1 : Dp K H x d) (h2 : Dp K H y e) (s1 : SeqAt.shaped d = true) (s2 : SeqAt.shaped e = true) (q : Q (.bl (PyData.eqv d e)) H) : rEqD K x y H Q := ⟨d, e, h1, h2, s1, s2, q⟩
theorem r_ned {d e : PyData} (h1 : Dp K H x d) (h2 : Dp K H y e) (s1 : SeqAt.shaped d = true) (s2 : SeqAt.shaped e = true) (q : Q (.bl (!PyData.eqv d e)) H) : rNeD K x y H Q := ⟨d, e, h1, h2, s1, s2, q⟩
theorem r_rep {k : Int} (h : H l = some (.lst xs)) (h1 : -(2 ^ 63) ≤ k) (h2 : k < 2 ^ 63) (hz : xs.length * k.toNat ≤ sizeLine) (q : ∀ p, H p = none → Q (.ref p) (upd H p (.lst (List.replicate k.toNat xs).flatten))) : rRep (.ref l) (.int k) H Q := ⟨l, k, xs, rfl, rfl, h, h1, h2, hz, q⟩
theorem r_rep1 {k : Int} (h : H l = some (.lst [v])) (h1 : -1000000 ≤ k) (h2 : k ≤ 1000000) (q : ∀ p, H p = none → Q (.ref p) (upd H p (.lst (List.replicate k.toNat v)))) : rRep (.ref l) (.int k) H Q := ⟨l, k, [v], rfl, rfl, h, by omega, by omega, by rw [sz]; show 1 * _ ≤ _; omega, by
  rw [show (List.replicate k.toNat [v]).flatten = List.replicate k.toNat v from by
    generalize k.toNat = n
    induction n with
    | zero => rfl
    | succ n ih => rw [List.replicate_succ, List.flatten_cons, ih, List.replicate_succ]; rfl]
  exact q⟩
theorem r_cat (h : H l = some (.lst xs)) (h' : H p = some (.lst ys)) (hz : xs.length + ys.length ≤ sizeLine) (q : ∀ r, H r = none → Q (.ref r) (upd H r (.lst (xs ++ ys)))) : rCat (.ref l) (.ref p) H Q := ⟨l, p, xs, ys, rfl, rfl, h, h', hz, q⟩
theorem r_aug {n : Nat} {ti : TIp} (h : σ[n]? = some (some x)) (q : te σ H fun y H1 => ti x y H1 fun z H2 => D.nx (σ.set n (some z)) H2) : tAug n te ti D σ H := ⟨x, h, q⟩
theorem r_ipI {f : Int → Int → Int} (q : Q (.int (f i j)) H) : ipI f (.int i) (.int j) H Q := ⟨i, j, rfl, rfl, q⟩
theorem r_sorted {ns : List Int} (h : SqL K H a (ns.map V.int)) (h64 : ns.length < 64) (q : ∀ (ns' : List Int) (p : Addr), ns'.Perm ns → ns'.Pairwise (· ≤ ·) → H p = none → Q (.ref p) (upd H p (.lst (ns'.map V.int)))) : rSorted K [.ref a] H Q := ⟨a, ns, rfl, h, h64, q⟩
end
/-! slices, texts -/
def kPart (Q : Option Int → Hp → Prop) : V → Hp → Prop := fun x H => ∃ i, x = .int i ∧ Q (some i) H
section
variable {σ : L2.St} {H : Hp} {te : TE} {tl th : TO} {Q : V → Hp → Prop} {QO : Option Int → Hp → Prop} {K : PySem.W.Frag} {a : Addr} {xs : List V} {lo hi : Option Int} {i : Int} {z : Str}
theorem r_sl {r : V → Option Int → Option Int → Hp → VK → Prop} (h : te σ H fun x H1 => tl σ H1 fun l H2 => th σ H2 fun u H3 => r x l u H3 Q) : tSl r te tl th σ H Q := h
theorem r_noP (q : QO none H) : tNoPart σ H QO := q
theorem r_part (h : te σ H (kPart QO)) : tPart te σ H QO := h
theorem r_kPart (q : QO (some i) H) : kPart QO (.int i) H := ⟨i, rfl, q⟩
theorem r_slS (hl : z.length ≤ 1000000) (q : Q (.str (cutS z lo hi)) H) : rSlS (.str z) lo hi H Q := ⟨z, rfl, by rw [sz]; omega, q⟩
theorem r_slL (h : SqL K H a xs) (q : ∀ p, H p = none → Q (.ref p) (upd H p (.lst (cutV xs lo hi)))) : rSlL K (.ref a) lo hi H Q := ⟨a, xs, rfl, h, q⟩
end
/-! loops and comprehensions -/
def kLc (g : TG) (tt : TT) (te : TE) (vs : List Nat) (σ : L2.St) (Q : V → Hp → Prop) : It → Hp → Prop := fun J H1 => ∀ D, H1 D = none → ∃ W : Nat → Nat → Hp → Prop, (∃ m, W 0 m (upd H1 D (.lst []))) ∧ ∀ i m H, W i m H →
  (J.stop i H ∧ Q (.ref D) H) ∨ (J.go i H ∧ ∃ Nx : Hp → Prop, (∀ H', Nx H' → ∃ m', m' < m ∧ W (i + 1) m' H') ∧ ∀ x H', J.yld i H x H' → g x (wipe σ vs) H' fun σ2 H2 => wipe σ2 vs = wipe σ vs ∧ tt σ2 H2 fun b H3 =>
    if b = true then te σ2 H3 fun y H4 => ∃ acc, H4 D = some (.lst acc) ∧ acc.length < sizeLine ∧ Nx (upd H4 D (.lst (acc ++ [y]))) else Nx H3)
def kR1 (R : It → Hp → Prop) : List V → Hp → Prop := fun vs H1 => ∃ j : Int, vs = [.int j] ∧ -(2 ^ 62) ≤ j ∧ j < 2 ^ 62 ∧ R (Itr 0 j.toNat) H1
def kR2 (R : It → Hp → Prop) : List V → Hp → Prop := fun vs H1 => ∃ i j : Int, vs = [.int i, .int j] ∧ (-(2 ^ 62) ≤ i ∧ i < 2 ^ 62 ∧ -(2 ^ 62) ≤ j ∧ j < 2 ^ 62) ∧ R (Itr i (j - i).toNat) H1
def kIl (K : PySem.W.Frag) (R : It → Hp → Prop) : V → Hp → Prop := fun x H1 => ∃ a, x = .ref a ∧ (∃ xs, SqL K H1 a xs) ∧ R (Itl K a) H1
def kIt (K : PySem.W.Frag) (R : It → Hp → Prop) : V → Hp → Prop := fun x H1 => ∃ a, x = .ref a ∧ (∃ xs, SqT K H1 a xs) ∧ R (Itt K a) H1
def kFor (g : TG) (tb : TS) (D : Ends) (σ : L2.St) : It → Hp → Prop := fun J H1 => ∃ W : Nat → Nat → L2.St → Hp → Prop, (∃ m, W 0 m σ H1) ∧ ∀ i m σ H, W i m σ H →
  (J.stop i H ∧ D.nx σ H) ∨ (J.go i H ∧ ∃ N : L2.St → Hp → Prop, (∀ σ' H', N σ' H' → ∃ m', m' < m ∧ W (i + 1) m' σ' H') ∧ ∀ x H', J.yld i H x H' → g x σ H' fun σ2 H2 => tb { D with nx := N, ct := N, bk := D.nx } σ2 H2)
section
variable {σ : L2.St} {H : Hp} {D : Ends} {te : TE} {ta : TA} {g : TG} {tt : TT} {tb : TS} {wi : TI} {vs : List Nat} {Q : V → Hp → Prop} {R : It → Hp → Prop} {K : PySem.W.Frag} {a : Addr} {xs : List V} {i j : Int}
theorem r_lc (h : wi σ H (kLc g tt te vs σ Q)) : tLc wi g tt te vs σ H Q := h
theorem r_for (h : wi σ H (kFor g tb D σ)) : tFor wi g tb D σ H := h
theorem r_irng1 (h : ta σ H (kR1 R)) : iRng1 ta σ H R := h
theorem r_irng2 (h : ta σ H (kR2 R)) : iRng2 ta σ H R := h
theorem r_ilist (h : te σ H (kIl K R)) : iList K te σ H R := h
theorem r_itup (h : te σ H (kIt K R)) : iTup K te σ H R := h
theorem r_kR1 (h1 : -(2 ^ 62) ≤ j) (h2 : j < 2 ^ 62) (h : R (Itr 0 j.toNat) H) : kR1 R [.int j] H := ⟨j, rfl, h1, h2, h⟩
theorem r_kR2 (h1 : -(2 ^ 62) ≤ i ∧ i < 2 ^ 62 ∧ -(2 ^ 62) ≤ j ∧ j < 2 ^ 62) (h : R (Itr i (j - i).toNat) H) : kR2 R [.int i, .int j] H := ⟨i, j, rfl, h1, h⟩
theorem r_kIl (h1 : SqL K H a xs) (h : R (Itl K a) H) : kIl K R (.ref a) H := ⟨a, rfl, ⟨_, h1⟩, h⟩
theorem r_kIt (h1 : SqT K H a xs) (h : R (Itt K a) H) : kIt K R (.ref a) H := ⟨a, rfl, ⟨_, h1⟩, h⟩
theorem r_forR {lo : Int} {n : Nat} (Pv : Nat → L2.St → Hp → Prop) (h0 : Pv 0 σ H)
    (hs : ∀ i σ H, i < n → Pv i σ H → g (.int (lo + i)) σ H fun σ2 H2 => tb { D with nx := Pv (i + 1), ct := Pv (i + 1), bk := D.nx } σ2 H2) (hd : ∀ σ H, Pv n σ H → D.nx σ H) : kFor g tb D σ (Itr lo n) H := for_range Pv h0 hs hd
theorem r_forL (Pv : Nat → L2.St → Hp → Prop) (h0 : Pv 0 σ H) (hl : ∀ i σ H, i ≤ xs.length → Pv i σ H → SqL K H a xs)
    (hs : ∀ i x σ H, xs[i]? = some x → Pv i σ H → g x σ H fun σ2 H2 => tb { D with nx := Pv (i + 1), ct := Pv (i + 1), bk := D.nx } σ2 H2) (hd : ∀ σ H, Pv xs.length σ H → D.nx σ H) : kFor g tb D σ (Itl K a) H := for_list Pv h0 hl hs hd
theorem r_forT (Pv : Nat → L2.St → Hp → Prop) (h0 : Pv 0 σ H) (hl : ∀ i σ H, i ≤ xs.length → Pv i σ H → SqT K H a xs)
    (hs : ∀ i x σ H, xs[i]? = some x → Pv i σ H → g x σ H fun σ2 H2 => tb { D with nx := Pv (i + 1), ct := Pv (i + 1), bk := D.nx } σ2 H2) (hd : ∀ σ H, Pv xs.length σ H → D.nx σ H) : kFor g tb D σ (Itt K a) H := for_tup Pv h0 hl hs hd
/-- [e for x in range], e an int -/
theorem r_lcI {lo : Int} {n slot : Nat} (P : Nat → Int → Prop) (hn : n ≤ 100000) (hv : vs = [slot])
    (hs : ∀ (i : Nat) (H' : Hp), i < n → L2.Same H H' → ∀ R : V → Hp → Prop, (∀ z : Int, P i z → R (.int z) H') → te ((wipe σ vs).set slot (some (.int (lo + i)))) H' R)
    (q : ∀ (H' : Hp) (l : Addr) (zs : List Int), L2.Same H H' → H l = none → H' l = some (.lst (zs.map V.int)) → zs.length = n → (∀ (i : Nat) (z : Int), zs[i]? = some z → P i z) → Q (.ref l) H') :
    kLc (gName slot) tYes te vs σ Q (Itr lo n) H := by
  intro L hL
  have hw : ∀ (τ : L2.St) (x : V), wipe (τ.set slot (some x)) [slot] = wipe τ [slot] := fun τ x => by simp [wipe, List.set_set]
  have hw2 : wipe (wipe σ vs) vs = wipe σ vs := by subst hv; simp [wipe, List.set_set]
  refine lc_range (fun i H' => ∃ zs : List Int, zs.length = i ∧ H' L = some (.lst (zs.map V.int)) ∧ L2.Same H H' ∧ ∀ (k : Nat) (z : Int), zs[k]? = some z → P k z) ⟨[], rfl, upd_same, fun b o e => by rw [upd_ne (ne_of_none e hL)]; exact e, fun k z e => by simp at e⟩ ?_ ?_
  · rintro i H' hi ⟨zs, el, eL, s, hp⟩
    refine ⟨?_, ?_⟩
    · subst hv
      rw [hw]
      exact hw2
    · show te ((wipe σ vs).set slot (some (.int (lo + i)))) H' _
      refine hs i H' hi s _ fun z hz => ⟨_, eL, ?_, zs ++ [z], ?_, ?_, ?_, ?_⟩
      · rw [List.length_map, el]
        exact Nat.lt_of_lt_of_le (Nat.lt_of_lt_of_le hi hn) (by decide)
      · rw [List.length_append, el]; rfl
      · rw [upd_same, List.map_append]; rfl
      · intro b o e
        rw [upd_ne (ne_of_none e hL)]
        exact s _ _ e
      · intro k y e
        rw [List.getElem?_append] at e
        split at e
        · exact hp k y e
        · rename_i hk
          have ek : k = zs.length := by
            have := (List.getElem?_eq_some_iff.mp e).1
            simp at this
            omega
          subst ek
          simp at e
          rw [el, ← e]
          exact hz
  · rintro H' ⟨zs, el, eL, s, hp⟩
    exact q H' L zs s hL eL el hp
end
/-! named readings for texts, the lesser and the greater of two -/
def rLenS : List V → Hp → VK → Prop := fun xs H Q => ∃ z, xs = [.str z] ∧ z.length ≤ sizeLine ∧ Q (.int z.length) H
theorem c_lenS {X : Cx} : CallR X (.builtin "len") rLenS := call_len_str
def rMin2 : List V → Hp → VK → Prop := fun xs H Q => ∃ i j, xs = [.int i, .int j] ∧ Q (.int (if j < i then j else i)) H
theorem c_min2 {X : Cx} (hc : X.calm = true) : CallR X (.builtin "min") rMin2 := call_min2 hc
def rMax2 : List V → Hp → VK → Prop := fun xs H Q => ∃ i j, xs = [.int i, .int j] ∧ Q (.int (if j > i then j else i)) H
theorem c_max2 {X : Cx} (hc : X.calm = true) : CallR X (.builtin "max") rMax2 := call_max2 hc
def rAddT : R2 := fun x y H Q => ∃ i j, x = .str i ∧ y = .str j ∧ i.length + j.length ≤ sizeLine ∧ Q (.str (i ++ j)) H
theorem op_addT {X : Cx} : OpR X (binaryOp .Add) rAddT := op_add_str
section
variable {H : Hp} {Q : V → Hp → Prop} {z y : Str} {i j : Int}
theorem r_lenS (hl : z.length ≤ 1000000) (q : Q (.int z.length) H) : rLenS [.str z] H Q := ⟨z, rfl, by rw [sz]; omega, q⟩
theorem r_min2 (q : ∀ m : Int, m ≤ i → m ≤ j → m = i ∨ m = j → Q (.int m) H) : rMin2 [.int i, .int j] H Q := ⟨i, j, rfl, by split <;> exact q _ (by omega) (by omega) (by omega)⟩
theorem r_max2 (q : ∀ m : Int, i ≤ m → j ≤ m → m = i ∨ m = j → Q (.int m) H) : rMax2 [.int i, .int j] H Q := ⟨i, j, rfl, by split <;> exact q _ (by omega) (by omega) (by omega)⟩
theorem r_addT (hl : z.length + y.length ≤ 1000000) (q : Q (.str (z ++ y)) H) : rAddT (.str z) (.str y) H Q := ⟨z, y, rfl, rfl, by rw [sz]; omega, q⟩
end
def kIstr (R : It → Hp → Prop) : V → Hp → Prop := fun x H1 => ∃ z, x = .str z ∧ R (Its z) H1
theorem r_istr {te : TE} {σ : L2.St} {H : Hp} {R : It → Hp → Prop} (h : te σ H (kIstr R)) : iStr te σ H R := h
theorem r_kIs {z : Str} {H : Hp} {R : It → Hp → Prop} (h : R (Its z) H) : kIstr R (.str z) H := ⟨z, rfl, h⟩
end Sg
/-! data behind values, as the heap grows -/
namespace Sg
open PySem L2
mutual
theorem Dp.mono {K : PySem.W.Frag} {H H' : Hp} (s : L2.Same H H') : ∀ (d : PyData) (v : V), Dp K H v d → Dp K H' v d
  | .none, _, h => by cases h; exact .non
  | .bool b, _, h => by cases h; exact .bl b
  | .int i, _, h => by cases h; exact .int i
  | .str x, _, h => by cases h; exact .str x
  | .list ds, _, h => by
    cases h with
    | lst hs ha => exact .lst (L2.Same.seq s hs) (DpAll.mono s ds _ ha)
  | .tuple ds, _, h => by
    cases h with
    | tup hs ha => exact .tup (Sg.Same.tup s hs) (DpAll.mono s ds _ ha)
  | .dict _, _, h => by cases h
theorem DpAll.mono {K : PySem.W.Frag} {H H' : Hp} (s : L2.Same H H') : ∀ (ds : List PyData) (vs : List V), DpAll K H vs ds → DpAll K H' vs ds
  | [], _, h => by cases h; exact .nil
  | d :: ds, _, h => by
    cases h with
    | cons h1 h2 => exact .cons (Dp.mono s d _ h1) (DpAll.mono s ds _ h2)
end
theorem DpAll.ints {K : PySem.W.Frag} {H : Hp} : ∀ ns : List Int, DpAll K H (ns.map V.int) (ns.map PyData.int)
  | [] => .nil
  | n :: ns => .cons (.int n) (DpAll.ints ns)
theorem DpAll.at {K : PySem.W.Frag} {H : Hp} : ∀ {vs : List V} {ds : List PyData}, DpAll K H vs ds → ∀ (i : Nat) (v : V), vs[i]? = some v → ∃ d, ds[i]? = some d ∧ Dp K H v d
  | _, _, .nil, i, v, e => by simp at e
  | _, _, .cons h t, 0, v, e => by simp at e; subst e; exact ⟨_, rfl, h⟩
  | _, _, .cons h t, i + 1, v, e => by
    obtain ⟨d, e1, h1⟩ := DpAll.at t i v (by simpa using e)
    exact ⟨d, by simpa using e1, h1⟩
theorem DpAll.length {K : PySem.W.Frag} {H : Hp} : ∀ {vs : List V} {ds : List PyData}, DpAll K H vs ds → vs.length = ds.length
  | _, _, .nil => rfl
  | _, _, .cons _ t => by simp [DpAll.length t]
/-- data that can be compared, at most n deep -/
def Fl (n : Nat) (d : PyData) : Prop := d.canLay0 = true ∧ d.depth ≤ n
theorem Fl.int (i : Int) (n : Nat) : Fl n (.int i) := ⟨by simp [PyData.canLay0], by simp [PyData.depth]⟩
theorem Fl.non (n : Nat) : Fl n .none := ⟨by simp [PyData.canLay0], by simp [PyData.depth]⟩
theorem Fl.bool (b : Bool) (n : Nat) : Fl n (.bool b) := ⟨by simp [PyData.canLay0], by simp [PyData.depth]⟩
theorem Fl.all {n : Nat} : ∀ {ds : List PyData}, (∀ d ∈ ds, Fl n d) → PyData.canLayAll0 ds = true ∧ PyData.depthAll ds ≤ n
  | [], _ => ⟨by simp [PyData.canLayAll0], by simp [PyData.depthAll]⟩
  | d :: ds, h => by
    obtain ⟨h1, h2⟩ := h d List.mem_cons_self
    obtain ⟨h3, h4⟩ := Fl.all (ds := ds) fun x hx => h x (List.mem_cons_of_mem _ hx)
    refine ⟨by simp [PyData.canLayAll0, h1, h3], ?_⟩
    simp only [PyData.depthAll]
    exact Nat.max_le.mpr ⟨h2, h4⟩
theorem Fl.tup {n : Nat} {ds : List PyData} (h : ∀ d ∈ ds, Fl n d) : Fl (n + 1) (.tuple ds) := by
  obtain ⟨h1, h2⟩ := Fl.all h
  exact ⟨by simp [PyData.canLay0, h1], by simp only [PyData.depth]; omega⟩
theorem Fl.lst {n : Nat} {ds : List PyData} (h : ∀ d ∈ ds, Fl n d) : Fl (n + 1) (.list ds) := by
  obtain ⟨h1, h2⟩ := Fl.all h
  exact ⟨by simp [PyData.canLay0, h1], by simp only [PyData.depth]; omega⟩
theorem Fl.mono {n m : Nat} {d : PyData} (h : Fl n d) (hm : n ≤ m) : Fl m d := ⟨h.1, Nat.le_trans h.2 hm⟩
theorem Fl.ints (ns : List Int) : Fl 1 (.tuple (ns.map PyData.int)) := Fl.tup fun d hd => by
  obtain ⟨i, _, rfl⟩ := List.mem_map.mp hd
  exact Fl.int i 0
theorem Fl.intl (ns : List Int) : Fl 1 (.list (ns.map PyData.int)) := Fl.lst fun d hd => by
  obtain ⟨i, _, rfl⟩ := List.mem_map.mp hd
  exact Fl.int i 0
theorem Fl.nil {n : Nat} : ∀ d ∈ ([] : List PyData), Fl n d := fun d h => by cases h
theorem Fl.cons {n : Nat} {d : PyData} {ds : List PyData} (h : Fl n d) (t : ∀ x ∈ ds, Fl n x) : ∀ x ∈ d :: ds, Fl n x := fun x hx => by
  rcases List.mem_cons.mp hx with rfl | hx
  · exact h
  · exact t x hx
theorem Fl.mapi {n : Nat} {ns : List Int} : ∀ d ∈ ns.map PyData.int, Fl n d := fun d hd => by
  obtain ⟨i, _, rfl⟩ := List.mem_map.mp hd
  exact Fl.int i n
theorem Fl.shaped {n : Nat} {d : PyData} (h : Fl n d) (hn : n ≤ 64 := by decide) : SeqAt.shaped d = true := by
  unfold SeqAt.shaped
  rw [h.1, decide_eq_true (Nat.le_trans h.2 hn)]
  rfl
theorem Fl.self {n : Nat} {d : PyData} (h : Fl n d) : PyData.eqv d d = true := SeqAt.eqv_refl d h.1
/-! lists of ints -/
theorem ixN_ok {n : Nat} {k : Int} (h0 : 0 ≤ k) (h1 : k < n) : ixN n k = some k.toNat := by unfold ixN; rw [if_pos h0, if_pos h1]
theorem at_ints {ts : List Int} {k : Int} (h0 : 0 ≤ k) (h1 : k < ts.length) : atI (ts.map V.int) k = some (.int (ts.getD k.toNat 0)) := by
  obtain ⟨n, rfl⟩ := Int.eq_ofNat_of_zero_le h0
  have hn : n < ts.length := by omega
  refine atI_nat ?_
  rw [List.getElem?_map, List.getElem?_eq_getElem hn, List.getD_eq_getElem?_getD, Int.toNat_natCast, List.getElem?_eq_getElem hn]
  rfl
theorem rep_ints (n : Nat) (z : Int) : (List.replicate n [V.int z]).flatten = (List.replicate n z).map V.int := by
  induction n with
  | zero => rfl
  | succ n ih => rw [List.replicate_succ, List.flatten_cons, ih, List.replicate_succ, List.map_cons]; rfl
theorem set_ints (ts : List Int) (n : Nat) (z : Int) : (ts.map V.int).set n (.int z) = (ts.set n z).map V.int := by rw [List.map_set]
theorem eqv_ints {as bs : List Int} : PyData.eqv (.list (as.map PyData.int)) (.list (bs.map PyData.int)) = decide (as = bs) := by
  rw [PyData.eqv]
  induction as generalizing bs with
  | nil => cases bs <;> simp [PyData.eqvAll]
  | cons a as ih =>
    cases bs with
    | nil => simp [PyData.eqvAll]
    | cons b bs =>
      rw [List.map_cons, List.map_cons, PyData.eqvAll, ih, PyData.eqv]
      by_cases e : a = b
      · subst e; simp
      · simp [e]
theorem Dp.ints {K : PySem.W.Frag} {H : Hp} {a : Addr} {ns : List Int} (h : SqL K H a (ns.map V.int)) : Dp K H (.ref a) (.list (ns.map PyData.int)) := .lst h (DpAll.ints ns)
theorem Fl.intlS (ns : List Int) : SeqAt.shaped (.list (ns.map PyData.int)) = true := (Fl.intl ns).shaped
/-! a comprehension over a list, its items anything -/
/-- the heap without the list that grows -/
def hid (D : Addr) (H : Hp) : Hp := fun b => if b = D then none else H b
theorem hid_ne {D b : Addr} {H : Hp} (h : b ≠ D) : hid D H b = H b := by unfold hid; rw [if_neg h]
theorem hid_at {D : Addr} {H : Hp} : hid D H D = none := by unfold hid; rw [if_pos rfl]
theorem hid_same {D : Addr} {H : Hp} : L2.Same (hid D H) H := fun b o e => by
  by_cases hb : b = D
  · rw [hb, hid_at] at e; cases e
  · rw [hid_ne hb] at e; exact e
theorem of_hid {D b : Addr} {H : Hp} {o : HO} (e : hid D H b = some o) : b ≠ D ∧ H b = some o := by
  by_cases hb : b = D
  · rw [hb, hid_at] at e; cases e
  · rw [hid_ne hb] at e; exact ⟨hb, e⟩
theorem same_hid {D : Addr} {H H' : Hp} (s : L2.Same H H') (n : H D = none) : L2.Same H (hid D H') := fun b o e => by
  rw [hid_ne (ne_of_none e n)]; exact s _ _ e
theorem hid_upd {D : Addr} {H : Hp} {o : HO} : hid D (upd H D o) = hid D H := by
  funext b
  by_cases hb : b = D
  · rw [hb, hid_at, hid_at]
  · rw [hid_ne hb, hid_ne hb, upd_ne hb]
theorem hid_none {D : Addr} {H : Hp} (n : H D = none) : hid D H = H := by
  funext b
  by_cases hb : b = D
  · rw [hb, hid_at, n]
  · rw [hid_ne hb]
theorem r_lcL {K : PySem.W.Frag} {a : Addr} {xs : List V} {slot : Nat} {vs : List Nat} {te : TE} {σ : L2.St} {H : Hp} {Q : V → Hp → Prop} (P : Nat → List V → Hp → Prop) (hx : SqL K H a xs) (hn : xs.length ≤ 100000) (hv : vs = [slot])
    (h0 : P 0 [] H)
    (hs : ∀ (i : Nat) (x : V) (acc : List V) (H0 H' : Hp), xs[i]? = some x → L2.Same H H0 → P i acc H0 → L2.Same H0 H' → ∀ R : V → Hp → Prop,
      (∀ (v : V) (H'' : Hp), L2.Same H' H'' → (∀ D, H0 D = none → H' D ≠ none → P (i + 1) (acc ++ [v]) (hid D H'')) → R v H'') → te ((wipe σ vs).set slot (some x)) H' R)
    (q : ∀ (H' : Hp) (l : Addr) (acc : List V), L2.Same H H' → H l = none → H' l = some (.lst acc) → acc.length = xs.length → P xs.length acc (hid l H') → Q (.ref l) H') :
    kLc (gName slot) tYes te vs σ Q (Itl K a) H := by
  intro L hL
  have hw : ∀ (τ : L2.St) (x : V), wipe (τ.set slot (some x)) [slot] = wipe τ [slot] := fun τ x => by simp [wipe, List.set_set]
  have hw2 : wipe (wipe σ vs) vs = wipe σ vs := by subst hv; simp [wipe, List.set_set]
  refine lc_list (xs := xs) (fun i H' => ∃ acc : List V, acc.length = i ∧ H' L = some (.lst acc) ∧ L2.Same H H' ∧ P i acc (hid L H')) ⟨[], rfl, upd_same, fun b o e => by rw [upd_ne (ne_of_none e hL)]; exact e, by rw [hid_upd, hid_none hL]; exact h0⟩ ?_ ?_ ?_
  · rintro i H' hi ⟨acc, _, _, s, _⟩
    exact s.seq hx
  · rintro i x H' hi ⟨acc, el, eL, s, hp⟩
    refine ⟨?_, ?_⟩
    · subst hv
      rw [hw]
      exact hw2
    · show te ((wipe σ vs).set slot (some x)) H' _
      refine hs i x acc (hid L H') H' hi (same_hid s hL) hp hid_same _ fun v H'' s2 hP => ⟨acc, s2 _ _ eL, ?_, acc ++ [v], ?_, upd_same, ?_, ?_⟩
      · have := (List.getElem?_eq_some_iff.mp hi).1
        rw [el, sz]
        omega
      · rw [List.length_append, el]; rfl
      · intro b o e
        rw [upd_ne (ne_of_none e hL)]
        exact s2 _ _ (s _ _ e)
      · rw [hid_upd]
        exact hP L hid_at (by rw [eL]; intro z; cases z)
  · rintro H' ⟨acc, el, eL, s, hp⟩
    exact q H' L acc s hL eL el hp
end Sg
namespace Sg
open PySem L2
def top (i : Nat) : Stmt := PySem.Challenge.pw_segmentfs_k49_entries_as_octets.main.body.getD i (.Pass ⟨0, 0, 0, 0⟩)
abbrev s_number_octets : Stmt := top 1
abbrev s_number_of : Stmt := top 2
abbrev s_is_text : Stmt := top 8
abbrev s_octets_of : Stmt := top 9
abbrev s_text_of : Stmt := top 10
abbrev s_is_code : Stmt := top 11
abbrev s_filled : Stmt := top 13
abbrev s_is_name : Stmt := top 18
abbrev s_encode_entry : Stmt := top 19
abbrev s_decode_entry : Stmt := top 20
abbrev s_law_row : Stmt := top 22
abbrev s_law_is_integer : Stmt := top 23
abbrev s_law_char : Stmt := top 24
abbrev s_law_text : Stmt := top 25
abbrev s_law_name : Stmt := top 26
abbrev s_law_octets : Stmt := top 27
abbrev s_law_good : Stmt := top 28
abbrev s_law_reads : Stmt := top 29
abbrev s_law_is : Stmt := top 30
abbrev s_law_names : Stmt := top 31
abbrev s_law : Stmt := top 32
abbrev n_number_octets : List Str := ["number", "count", "place"]
theorem sc_number_octets : FnScope n_number_octets ["number", "count"] (defScope s_number_octets) := ⟨rfl, rfl, rfl, by decide +kernel, rfl, by decide +kernel, by decide +kernel⟩
abbrev n_number_of : List Str := ["octets", "number", "octet"]
theorem sc_number_of : FnScope n_number_of ["octets"] (defScope s_number_of) := ⟨rfl, rfl, rfl, by decide +kernel, rfl, by decide +kernel, by decide +kernel⟩
abbrev n_is_text : List Str := ["text", "sign"]
theorem sc_is_text : FnScope n_is_text ["text"] (defScope s_is_text) := ⟨rfl, rfl, rfl, by decide +kernel, rfl, by decide +kernel, by decide +kernel⟩
abbrev n_octets_of : List Str := ["text", "sign"]
theorem sc_octets_of : FnScope n_octets_of ["text"] (defScope s_octets_of) := ⟨rfl, rfl, rfl, by decide +kernel, rfl, by decide +kernel, by decide +kernel⟩
abbrev n_text_of : List Str := ["octets", "octet"]
theorem sc_text_of : FnScope n_text_of ["octets"] (defScope s_text_of) := ⟨rfl, rfl, rfl, by decide +kernel, rfl, by decide +kernel, by decide +kernel⟩
abbrev n_is_code : List Str := ["number"]
theorem sc_is_code : FnScope n_is_code ["number"] (defScope s_is_code) := ⟨rfl, rfl, rfl, by decide +kernel, rfl, by decide +kernel, by decide +kernel⟩
abbrev n_filled : List Str := ["numbers", "count"]
theorem sc_filled : FnScope n_filled ["numbers", "count"] (defScope s_filled) := ⟨rfl, rfl, rfl, by decide +kernel, rfl, by decide +kernel, by decide +kernel⟩
abbrev n_is_name : List Str := ["text"]
theorem sc_is_name : FnScope n_is_name ["text"] (defScope s_is_name) := ⟨rfl, rfl, rfl, by decide +kernel, rfl, by decide +kernel, by decide +kernel⟩
abbrev n_encode_entry : List Str := ["name", "number"]
theorem sc_encode_entry : FnScope n_encode_entry ["name", "number"] (defScope s_encode_entry) := ⟨rfl, rfl, rfl, by decide +kernel, rfl, by decide +kernel, by decide +kernel⟩
abbrev n_decode_entry : List Str := ["octets", "number", "name"]
theorem sc_decode_entry : FnScope n_decode_entry ["octets"] (defScope s_decode_entry) := ⟨rfl, rfl, rfl, by decide +kernel, rfl, by decide +kernel, by decide +kernel⟩
abbrev n_law_row : List Str := ["script", "k", "cell", "low", "high"]
theorem sc_law_row : FnScope n_law_row ["script", "k"] (defScope s_law_row) := ⟨rfl, rfl, rfl, by decide +kernel, rfl, by decide +kernel, by decide +kernel⟩
abbrev n_law_is_integer : List Str := ["actual"]
theorem sc_law_is_integer : FnScope n_law_is_integer ["actual"] (defScope s_law_is_integer) := ⟨rfl, rfl, rfl, by decide +kernel, rfl, by decide +kernel, by decide +kernel⟩
abbrev n_law_char : List Str := ["number", "chars"]
theorem sc_law_char : FnScope n_law_char ["number"] (defScope s_law_char) := ⟨rfl, rfl, rfl, by decide +kernel, rfl, by decide +kernel, by decide +kernel⟩
abbrev n_law_text : List Str := ["number", "count", "text", "k"]
theorem sc_law_text : FnScope n_law_text ["number", "count"] (defScope s_law_text) := ⟨rfl, rfl, rfl, by decide +kernel, rfl, by decide +kernel, by decide +kernel⟩
abbrev n_law_name : List Str := ["number", "text", "char"]
theorem sc_law_name : FnScope n_law_name ["number"] (defScope s_law_name) := ⟨rfl, rfl, rfl, by decide +kernel, rfl, by decide +kernel, by decide +kernel⟩
abbrev n_law_octets : List Str := ["name", "number", "char"]
theorem sc_law_octets : FnScope n_law_octets ["name", "number"] (defScope s_law_octets) := ⟨rfl, rfl, rfl, by decide +kernel, rfl, by decide +kernel, by decide +kernel⟩
abbrev n_law_good : List Str := ["octets", "length", "k", "code"]
theorem sc_law_good : FnScope n_law_good ["octets"] (defScope s_law_good) := ⟨rfl, rfl, rfl, by decide +kernel, rfl, by decide +kernel, by decide +kernel⟩
abbrev n_law_reads : List Str := ["octets", "passed", "found"]
theorem sc_law_reads : FnScope n_law_reads ["octets"] (defScope s_law_reads) := ⟨rfl, rfl, rfl, by decide +kernel, rfl, by decide +kernel, by decide +kernel⟩
abbrev n_law_is : List Str := ["actual", "due"]
theorem sc_law_is : FnScope n_law_is ["actual", "due"] (defScope s_law_is) := ⟨rfl, rfl, rfl, by decide +kernel, rfl, by decide +kernel, by decide +kernel⟩
abbrev n_law_names : List Str := ["number", "text", "due"]
theorem sc_law_names : FnScope n_law_names ["number"] (defScope s_law_names) := ⟨rfl, rfl, rfl, by decide +kernel, rfl, by decide +kernel, by decide +kernel⟩
abbrev n_law : List Str := ["script", "name", "number", "target", "octets", "row", "at", "k"]
theorem sc_law : FnScope n_law ["script"] (defScope s_law) := ⟨rfl, rfl, rfl, by decide +kernel, rfl, by decide +kernel, by decide +kernel⟩
structure Txt (K : PySem.W.Frag) (mg : Str → Option Value) where
  a_number_octets : Addr
  fd_number_octets : FuncData
  a_number_of : Addr
  fd_number_of : FuncData
  a_is_text : Addr
  fd_is_text : FuncData
  a_octets_of : Addr
  fd_octets_of : FuncData
  a_text_of : Addr
  fd_text_of : FuncData
  a_is_code : Addr
  fd_is_code : FuncData
  a_filled : Addr
  fd_filled : FuncData
  a_is_name : Addr
  fd_is_name : FuncData
  a_encode_entry : Addr
  fd_encode_entry : FuncData
  a_decode_entry : Addr
  fd_decode_entry : FuncData
  a_law_row : Addr
  fd_law_row : FuncData
  a_law_is_integer : Addr
  fd_law_is_integer : FuncData
  a_law_char : Addr
  fd_law_char : FuncData
  a_law_text : Addr
  fd_law_text : FuncData
  a_law_name : Addr
  fd_law_name : FuncData
  a_law_octets : Addr
  fd_law_octets : FuncData
  a_law_good : Addr
  fd_law_good : FuncData
  a_law_reads : Addr
  fd_law_reads : FuncData
  a_law_is : Addr
  fd_law_is : FuncData
  a_law_names : Addr
  fd_law_names : FuncData
  a_law : Addr
  fd_law : FuncData
  t_ENTRY_OCTETS : Tok
  t_FIRST_CODE : Tok
  t_LAST_CODE : Tok
  t_MOST_SIGNS : Tok
  t_NAME_START : Tok
  t_PERCENT : Tok
  t_SIGNS : Tok
  F_number_octets : Fun K "number_octets" "number_octets" s_number_octets a_number_octets fd_number_octets
  b_number_octets : Binds K fd_number_octets ["number", "count"] []
  m_number_octets : mg "number_octets" = some (.ref a_number_octets)
  F_number_of : Fun K "number_of" "number_of" s_number_of a_number_of fd_number_of
  b_number_of : Binds K fd_number_of ["octets"] []
  m_number_of : mg "number_of" = some (.ref a_number_of)
  F_is_text : Fun K "is_text" "is_text" s_is_text a_is_text fd_is_text
  b_is_text : Binds K fd_is_text ["text"] []
  m_is_text : mg "is_text" = some (.ref a_is_text)
  F_octets_of : Fun K "octets_of" "octets_of" s_octets_of a_octets_of fd_octets_of
  b_octets_of : Binds K fd_octets_of ["text"] []
  m_octets_of : mg "octets_of" = some (.ref a_octets_of)
  F_text_of : Fun K "text_of" "text_of" s_text_of a_text_of fd_text_of
  b_text_of : Binds K fd_text_of ["octets"] []
  m_text_of : mg "text_of" = some (.ref a_text_of)
  F_is_code : Fun K "_is_code" "_is_code" s_is_code a_is_code fd_is_code
  b_is_code : Binds K fd_is_code ["number"] []
  m_is_code : mg "_is_code" = some (.ref a_is_code)
  F_filled : Fun K "filled" "filled" s_filled a_filled fd_filled
  b_filled : Binds K fd_filled ["numbers", "count"] []
  m_filled : mg "filled" = some (.ref a_filled)
  F_is_name : Fun K "is_name" "is_name" s_is_name a_is_name fd_is_name
  b_is_name : Binds K fd_is_name ["text"] []
  m_is_name : mg "is_name" = some (.ref a_is_name)
  F_encode_entry : Fun K "encode_entry" "encode_entry" s_encode_entry a_encode_entry fd_encode_entry
  b_encode_entry : Binds K fd_encode_entry ["name", "number"] []
  m_encode_entry : mg "encode_entry" = some (.ref a_encode_entry)
  F_decode_entry : Fun K "decode_entry" "decode_entry" s_decode_entry a_decode_entry fd_decode_entry
  b_decode_entry : Binds K fd_decode_entry ["octets"] []
  m_decode_entry : mg "decode_entry" = some (.ref a_decode_entry)
  F_law_row : Fun K "_law_row" "_law_row" s_law_row a_law_row fd_law_row
  b_law_row : Binds K fd_law_row ["script", "k"] []
  m_law_row : mg "_law_row" = some (.ref a_law_row)
  F_law_is_integer : Fun K "_law_is_integer" "_law_is_integer" s_law_is_integer a_law_is_integer fd_law_is_integer
  b_law_is_integer : Binds K fd_law_is_integer ["actual"] []
  m_law_is_integer : mg "_law_is_integer" = some (.ref a_law_is_integer)
  F_law_char : Fun K "_law_char" "_law_char" s_law_char a_law_char fd_law_char
  b_law_char : Binds K fd_law_char ["number"] []
  m_law_char : mg "_law_char" = some (.ref a_law_char)
  F_law_text : Fun K "_law_text" "_law_text" s_law_text a_law_text fd_law_text
  b_law_text : Binds K fd_law_text ["number", "count"] []
  m_law_text : mg "_law_text" = some (.ref a_law_text)
  F_law_name : Fun K "_law_name" "_law_name" s_law_name a_law_name fd_law_name
  b_law_name : Binds K fd_law_name ["number"] []
  m_law_name : mg "_law_name" = some (.ref a_law_name)
  F_law_octets : Fun K "_law_octets" "_law_octets" s_law_octets a_law_octets fd_law_octets
  b_law_octets : Binds K fd_law_octets ["name", "number"] []
  m_law_octets : mg "_law_octets" = some (.ref a_law_octets)
  F_law_good : Fun K "_law_good" "_law_good" s_law_good a_law_good fd_law_good
  b_law_good : Binds K fd_law_good ["octets"] []
  m_law_good : mg "_law_good" = some (.ref a_law_good)
  F_law_reads : Fun K "_law_reads" "_law_reads" s_law_reads a_law_reads fd_law_reads
  b_law_reads : Binds K fd_law_reads ["octets"] []
  m_law_reads : mg "_law_reads" = some (.ref a_law_reads)
  F_law_is : Fun K "_law_is" "_law_is" s_law_is a_law_is fd_law_is
  b_law_is : Binds K fd_law_is ["actual", "due"] []
  m_law_is : mg "_law_is" = some (.ref a_law_is)
  F_law_names : Fun K "_law_names" "_law_names" s_law_names a_law_names fd_law_names
  b_law_names : Binds K fd_law_names ["number"] []
  m_law_names : mg "_law_names" = some (.ref a_law_names)
  F_law : Fun K "law" "law" s_law a_law fd_law
  b_law : Binds K fd_law ["script"] []
  m_law : mg "law" = some (.ref a_law)
  c_ENTRY_OCTETS : mg "ENTRY_OCTETS" = some (.int 32 t_ENTRY_OCTETS)
  r_ENTRY_OCTETS : RelV (.int 32) (.int 32 t_ENTRY_OCTETS)
  c_FIRST_CODE : mg "FIRST_CODE" = some (.int 32 t_FIRST_CODE)
  r_FIRST_CODE : RelV (.int 32) (.int 32 t_FIRST_CODE)
  c_LAST_CODE : mg "LAST_CODE" = some (.int 126 t_LAST_CODE)
  r_LAST_CODE : RelV (.int 126) (.int 126 t_LAST_CODE)
  c_MOST_SIGNS : mg "MOST_SIGNS" = some (.int 28 t_MOST_SIGNS)
  r_MOST_SIGNS : RelV (.int 28) (.int 28 t_MOST_SIGNS)
  c_NAME_START : mg "NAME_START" = some (.int 3 t_NAME_START)
  r_NAME_START : RelV (.int 3) (.int 3 t_NAME_START)
  c_PERCENT : mg "PERCENT" = some (.int 37 t_PERCENT)
  r_PERCENT : RelV (.int 37) (.int 37 t_PERCENT)
  c_SIGNS : mg "SIGNS" = some (.str " !\"#$ &'()*+,-./0123456789:;<=>?@ABCDEFGHIJKLMNOPQRSTUVWXYZ[\\]^_`abcdefghijklmnopqrstuvwxyz{|}~" t_SIGNS)
  r_SIGNS : RelV (.str " !\"#$ &'()*+,-./0123456789:;<=>?@ABCDEFGHIJKLMNOPQRSTUVWXYZ[\\]^_`abcdefghijklmnopqrstuvwxyz{|}~") (.str " !\"#$ &'()*+,-./0123456789:;<=>?@ABCDEFGHIJKLMNOPQRSTUVWXYZ[\\]^_`abcdefghijklmnopqrstuvwxyz{|}~" t_SIGNS)
  n_all : mg "all" = none
  n_bool : mg "bool" = none
  n_int : mg "int" = none
  n_isinstance : mg "isinstance" = none
  n_len : mg "len" = none
  n_list : mg "list" = none
  n_min : mg "min" = none
  n_ord : mg "ord" = none
  n_range : mg "range" = none
  n_reversed : mg "reversed" = none
  n_str : mg "str" = none
  n_tuple : mg "tuple" = none
end Sg
namespace Sg
open PySem L2
local macro_rules | `(tactic| walk_at "size") => `(tactic| first | ((simp only [List.length_append, List.length_cons, List.length_nil, List.length_map, Sg.sz]) <;> omega) | (rw [Sg.sz]; simp <;> omega))
local macro_rules | `(tactic| walk_at "side") => `(tactic| first | with_reducible rfl | with_reducible assumption | (show (_ : Int) < _; omega) | omega | (simp only [List.length_map]; omega) | assumption | rfl | decide | exact Or.inr ⟨by decide, by decide⟩ | exact Or.inl ⟨by decide, by decide⟩ | exact Or.inr ⟨by omega, by omega⟩ | exact Or.inl ⟨by omega, by omega⟩ | exact ⟨by omega, by omega⟩ | exact ⟨by decide, by decide, by decide⟩ | (simp; done))
local macro_rules | `(tactic| walk_at "hp") => `(tactic| first | assumption | (refine' L2.SqT.of ?h1; (case h1 => walk_at "hp")) | (refine' L2.SqL.of ?h1; (case h1 => walk_at "hp")) | (refine' Sg.Same.tup ?h1 ?h2; (case h1 => assumption); (case h2 => walk_at "hp")) | (refine' L2.Same.seq ?h1 ?h2; (case h1 => assumption); (case h2 => walk_at "hp")) | (refine' (show L2.Same _ _ from ?h1) _ _ ?h2; (case h1 => assumption); (case h2 => walk_at "hp")) | (refine' Sg.at_keep ?he ?h1 ?h2 ?h3; (case he => assumption); (case h1 => walk_at "hp"); (case h2 => walk_at "hp"); (case h3 => (intro z; cases z))))
local macro_rules | `(tactic| walk_at "al") => `(tactic| (intro p hn; generalize hH : upd _ _ _ = H'; have hs := Sg.Same.of_new hH hn; have ho := Sg.at_new hH; clear hH))
local macro_rules | `(tactic| walk_at "sm1") => `(tactic| first | (refine' L2.Same.trans ?ha ?hb; (case hb => assumption)) | (refine' Sg.Same.old ?ha ?hb ?hc; (case hc => assumption); (case hb => walk_at "nn")))
local macro_rules | `(tactic| walk_at "sm") => `(tactic| first | exact L2.Same.refl _ | assumption | (walk_at "sm1"; walk_at "sm"))
local macro_rules | `(tactic| walk_at "nn") => `(tactic| first | assumption | ((refine' L2.Same.free ?ha ?hb; (case hb => assumption)); walk_at "sm"))
local macro_rules | `(tactic| walk_at "dp") => `(tactic| first | assumption | exact L2.Dp.int _ | exact L2.Dp.non | exact L2.Dp.bl _ | exact L2.Dp.str _ | (refine' L2.Dp.tup ?ha ?hb; (case ha => walk_at "hp"); (case hb => walk_at "dpa")) | (refine' L2.Dp.lst ?ha ?hb; (case ha => walk_at "hp"); (case hb => walk_at "dpa")))
local macro_rules | `(tactic| walk_at "dpa") => `(tactic| first | assumption | exact L2.DpAll.nil | exact Sg.DpAll.ints _ | (refine' L2.DpAll.cons ?ha ?hb; (case ha => walk_at "dp"); (case hb => walk_at "dpa")))
local macro_rules | `(tactic| walk_at "fl") => `(tactic| first | assumption | exact Sg.Fl.int _ _ | exact Sg.Fl.non _ | exact Sg.Fl.bool _ _ | (refine' Sg.Fl.tup ?ha; (case ha => walk_at "fla")) | (refine' Sg.Fl.lst ?ha; (case ha => walk_at "fla")))
local macro_rules | `(tactic| walk_at "fla") => `(tactic| first | assumption | exact Sg.Fl.nil | exact Sg.Fl.mapi | (refine' Sg.Fl.cons ?ha ?hb; (case ha => walk_at "fl"); (case hb => walk_at "fla")))
local macro_rules | `(tactic| walk_at "tyx") => `(tactic| first | exact L2.TyX.base (L2.TyOf.int _) | exact L2.TyX.base (L2.TyOf.bl _) | exact L2.TyX.base L2.TyOf.non | exact L2.TyX.base (L2.TyOf.str _) | (refine' L2.TyX.base (L2.TyOf.tup ?ha); (case ha => walk_at "hp")) | (refine' L2.TyX.base (L2.TyOf.lst ?ha); (case ha => walk_at "hp")) | (refine' L2.TyX.base (L2.TyOf.frz ?ha); (case ha => walk_at "hp")))
local macro_rules | `(tactic| walk_at "up") => `(tactic| (generalize hH : upd _ _ _ = H'; have ho := Sg.at_new hH))
local macro_rules | `(tactic| walk_at "lk") => `(tactic| first | with_reducible assumption | with_reducible exact Sg.lk_eq | (refine' Sg.lk_ne ?ha ?hb; (case ha => decide +kernel); (case hb => walk_at "lk")) | (refine' Sg.lk_no ?ha ?hb; (case ha => decide +kernel); (case hb => walk_at "lk")) | rfl)
local macro_rules | `(tactic| walk_at "few") => `(tactic| first | assumption | omega | decide | (refine' Nat.lt_of_le_of_lt (Sg.putF_len ?ha) ?hb; (case ha => walk_at "fewi"); (case hb => decide)))
local macro_rules | `(tactic| walk_at "fewi") => `(tactic| first | assumption | (refine' Sg.putF_len ?ha; (case ha => walk_at "fewi")) | exact Nat.le_refl _)
local macro_rules | `(tactic| walk_at "rd1") => `(tactic| with_reducible (first | refine' Sg.r_seq ?_ | refine' Sg.r_asg ?_ | refine' Sg.r_gname ?_ | (refine' Sg.r_var (by with_unfolding_all rfl) ?_) | refine' Sg.r_c ?_ | refine' Sg.r_op ?_ | refine' Sg.r_un ?_ | refine' Sg.r_cb ?_ | refine' Sg.r_cons ?_ | refine' Sg.r_nil ?_ | (refine' Sg.r_mod ?hc ?_; (case hc => (with_unfolding_all walk_at "side")); (intro z hz z0 z1)) | (refine' Sg.r_rI ?hc ?_; (case hc => (with_unfolding_all walk_at "side"))) | refine' Sg.r_rI0 ?_ | refine' Sg.r_rU ?_ | refine' Sg.r_int ?_ | refine' Sg.r_eqi ?_ | refine' Sg.r_nei ?_ | (refine' Sg.r_ixl ?h ?e ?_; (case h => (with_unfolding_all walk_at "hp")); (case e => (with_unfolding_all rfl))) | (refine' Sg.r_ixt ?h ?e ?_; (case h => (with_unfolding_all walk_at "hp")); (case e => (with_unfolding_all rfl))) | (refine' Sg.r_lenl ?h ?_; (case h => (with_unfolding_all walk_at "hp"))) | (refine' Sg.r_lent ?h ?_; (case h => (with_unfolding_all walk_at "hp"))) | refine' Sg.r_test ?_ | refine' Sg.r_exb ?_ | refine' Sg.r_tB ?_ | refine' Sg.r_exbP ?_ | refine' Sg.r_ifs ?_ | refine' Sg.r_and ?_ | refine' Sg.r_or ?_ | refine' Sg.r_not ?_ | refine' Sg.r_andV ?_ | refine' Sg.r_orV ?_ | refine' Sg.r_notV ?_ | refine' Sg.r_tif ?_ | refine' Sg.r_isN ?_ | refine' Sg.r_notN ?_ | refine' Sg.r_ret ?_ | refine' Sg.r_drop ?_ | refine' Sg.r_next ?_ | refine' Sg.r_call ?_ | refine' Sg.r_make ?_ | refine' Sg.r_meth ?_ | refine' Sg.r_fld ?_ | refine' Sg.r_sfld ?_ | refine' Sg.r_chain ?_ | (refine' Sg.r_fldL ?h ?hc ?hn ?hl ?_; (case h => (with_unfolding_all walk_at "hp")); (case hc => assumption); (case hn => assumption); (case hl => (with_unfolding_all walk_at "lk"))) | (refine' Sg.r_sfldL ?h ?hc ?hn ?hl ?_; (case h => (with_unfolding_all walk_at "hp")); (case hc => assumption); (case hn => assumption); (case hl => (with_unfolding_all walk_at "few")); (with_unfolding_all walk_at "up")) | (refine' Sg.r_gunl ?h ?hl ?_; (case h => (with_unfolding_all walk_at "hp")); (case hl => (with_unfolding_all walk_at "side"))) | (refine' Sg.r_gtup ?h ?hl ?_; (case h => (with_unfolding_all walk_at "hp")); (case hl => (with_unfolding_all walk_at "side"))) | (refine' Sg.r_methL ?h ?hl ?_; (case h => (with_unfolding_all walk_at "hp")); (case hl => (with_unfolding_all walk_at "lk"))) | refine' Sg.r_tup ?_ | refine' Sg.r_lst ?_ | (refine' Sg.r_ktup ?hl ?_; (case hl => (with_unfolding_all first | exact Nat.le_of_ble_eq_true rfl | decide)); (with_unfolding_all walk_at "al")) | (refine' Sg.r_klst ?hl ?_; (case hl => (with_unfolding_all first | exact Nat.le_of_ble_eq_true rfl | decide)); (with_unfolding_all walk_at "al")) | (refine' Sg.r_listl ?h ?_; (case h => (with_unfolding_all walk_at "hp")); (with_unfolding_all walk_at "al")) | (refine' Sg.r_listt ?h ?_; (case h => (with_unfolding_all walk_at "hp")); (with_unfolding_all walk_at "al")) | (refine' Sg.r_tupl ?h ?_; (case h => (with_unfolding_all walk_at "hp")); (with_unfolding_all walk_at "al")) | (refine' Sg.r_tupt ?h ?_; (case h => (with_unfolding_all walk_at "hp"))) | (refine' Sg.r_in (.inr ?h) ?fx ?fs ?_; (case h => (with_unfolding_all walk_at "hp")); (case fx => (with_unfolding_all rfl)); (case fs => (with_unfolding_all rfl))) | (refine' Sg.r_in (.inl ?h) ?fx ?fs ?_; (case h => (with_unfolding_all walk_at "hp")); (case fx => (with_unfolding_all rfl)); (case fs => (with_unfolding_all rfl))) | (refine' Sg.r_sorted ?h ?h64 ?_; (case h => (with_unfolding_all walk_at "hp")); (case h64 => (with_unfolding_all walk_at "side")); (intro ns' p perm rising; revert p; (with_unfolding_all walk_at "al"))) | (refine' Sg.r_app ?h ?hl ?_; (case h => (with_unfolding_all walk_at "hp")); (case hl => (with_unfolding_all walk_at "size")); (with_unfolding_all walk_at "up")) | refine' Sg.r_lc ?_ | refine' Sg.r_for ?_ | refine' Sg.r_irng1 ?_ | refine' Sg.r_irng2 ?_ | refine' Sg.r_ilist ?_ | refine' Sg.r_itup ?_ | (refine' Sg.r_kR1 ?h1 ?h2 ?_; (case h1 => (with_unfolding_all walk_at "side")); (case h2 => (with_unfolding_all walk_at "side"))) | (refine' Sg.r_kR2 ?h1 ?_; (case h1 => (with_unfolding_all refine ⟨?_, ?_, ?_, ?_⟩ <;> walk_at "side"))) | (refine' Sg.r_kIl ?h ?_; (case h => (with_unfolding_all walk_at "hp"))) | (refine' Sg.r_kIt ?h ?_; (case h => (with_unfolding_all walk_at "hp"))) | refine' Sg.r_bm ?_ | refine' Sg.r_bm0 ?_ | (refine' Sg.r_tyl ?h ?_; (case h => (with_unfolding_all walk_at "hp"))) | refine' Sg.r_nonR ?_ | refine' Sg.r_nonN ?_ | refine' Sg.r_isR ?_ | refine' Sg.r_isNN ?_ | refine' Sg.r_nonI ?_ | refine' Sg.r_isI ?_ | refine' L2.iteT ?_ | refine' L2.iteF ?_ | refine' Sg.r_gcons ?_ | refine' Sg.r_gnil ?_ | refine' Sg.r_gsub ?_ | refine' Sg.r_isb ?_ | refine' Sg.r_notb ?_ | (refine' Sg.r_aug (by with_unfolding_all rfl) ?_) | refine' Sg.r_ipI ?_ | (refine' Sg.r_isi (b := true) (L2.ClsV.ty _) ?ht ?hk ?_; (case ht => (with_unfolding_all walk_at "tyx")); (case hk => (with_unfolding_all exact L2.kit_ty (by decide +kernel)))) | (refine' Sg.r_isi (b := false) (L2.ClsV.ty _) ?ht ?hk ?_; (case ht => (with_unfolding_all walk_at "tyx")); (case hk => (with_unfolding_all exact L2.kit_ty (by decide +kernel)))) | refine' Sg.r_gmap ?_ | refine' Sg.r_gmapn ?_ | (refine' Sg.r_iteb ?hb ?_; (case hb => (with_unfolding_all rfl))) | (refine' Sg.r_iteB ?hb ?_; (case hb => (with_unfolding_all rfl)))))
local macro_rules | `(tactic| walk_at "rd") => `(tactic| repeat walk_at "rd1")
local macro_rules | `(tactic| walk_at "rdo") => `(tactic| repeat (first | walk_at "rd1" | (with_reducible refine' Sg.r_iteD ?hc ?_; (case hc => first | assumption | omega)) | (with_reducible refine' Sg.r_iteDn ?hc ?_; (case hc => first | assumption | omega)) | (with_reducible refine' Sg.r_iteND ?hc ?_; (case hc => first | assumption | omega)) | (with_reducible refine' Sg.r_iteNDn ?hc ?_; (case hc => first | assumption | omega))))
local macro_rules | `(tactic| walk_at "rd1") => `(tactic| with_reducible (first | refine' Sg.r_istr ?_ | refine' Sg.r_kIs ?_ | refine' Sg.r_eqb ?_ | refine' Sg.r_isS ?_ | refine' Sg.r_nonS ?_ | refine' Sg.r_eqs ?_ | refine' Sg.r_nes ?_ | refine' Sg.r_sl ?_ | refine' Sg.r_noP ?_ | refine' Sg.r_part ?_ | refine' Sg.r_kPart ?_ | (refine' Sg.r_slL ?h ?_; (case h => (with_unfolding_all walk_at "hp")); (with_unfolding_all walk_at "al"))))
local macro_rules | `(tactic| walk_at "szle") => `(tactic| (rw [Sg.sz]; (try simp only [List.length_map, List.length_append, List.length_cons, List.length_nil, List.length_replicate]); omega))
local macro_rules | `(tactic| walk_at "rd1") => `(tactic| with_reducible (first | (refine' Sg.r_cat ?h ?h' ?hz ?_; (case h => (with_unfolding_all walk_at "hp")); (case h' => (with_unfolding_all walk_at "hp")); (case hz => (with_unfolding_all walk_at "szle")); (with_unfolding_all walk_at "al")) | (refine' Sg.r_rep1 ?h ?h1 ?h2 ?_; (case h => (with_unfolding_all walk_at "hp")); (case h1 => omega); (case h2 => omega); (with_unfolding_all walk_at "al"))))
local macro_rules | `(tactic| walk_at "rd1") => `(tactic| with_reducible (first | (refine' Sg.r_lenS ?hl ?_; (case hl => omega)) | (refine' Sg.r_min2 ?_; (intro m hm1 hm2 hm3)) | (refine' Sg.r_max2 ?_; (intro m hm1 hm2 hm3)) | (refine' Sg.r_addT ?hl ?_; (case hl => omega))))
local macro_rules | `(tactic| walk_at "ca1") => `(tactic| fail)
local macro_rules | `(tactic| walk_at "pr") => `(tactic| first | assumption | omega | walk_at "hp" | exact L2.upd_same | rfl | trivial | decide)
local macro_rules | `(tactic| walk_at "it1") => `(tactic| with_reducible (first | (refine' Sg.r_iteD ?hc ?_; (case hc => first | assumption | omega)) | (refine' Sg.r_iteDn ?hc ?_; (case hc => first | assumption | omega)) | (refine' Sg.r_iteND ?hc ?_; (case hc => first | assumption | omega)) | (refine' Sg.r_iteNDn ?hc ?_; (case hc => first | assumption | omega))))
local macro_rules | `(tactic| walk_at "go1") => `(tactic| first | walk_at "rd1" | walk_at "rx1" | walk_at "ca1" | walk_at "it1")
local macro_rules | `(tactic| walk_at "go") => `(tactic| repeat walk_at "go1")
local macro_rules | `(tactic| walk_at "gs") => `(tactic| repeat' (first | walk_at "go1" | with_reducible refine' Sg.r_ite (fun _ => ?_) (fun _ => ?_) | with_reducible refine' Sg.r_iteN (fun _ => ?_) (fun _ => ?_)))
-- imports: HandS.NoneIn HandS.Defaults HandS.TupMul HandS.Zip HandS.SetFor HandS.SetKeys HandS.Walk HandS.Codes HandS.Text HandS.AnyAll HandS.WideBits HandS.Iter KE.GoesEnum
-- auto
section
variable {P : Program} {w : World} {K : PySem.W.Frag} {mg : Str → Option Value} {base : Heap}
/-! ### numbers drawn from the script (the cell of an empty script is its number) -/
def sp_row (K : PySem.W.Frag) : Sp := fun vs H Q _ => ∃ (a : Addr) (ns : List Int) (k : Int), vs = [.ref a, .int k] ∧ SqL K H a (ns.map V.int) ∧ ns.length ≤ 63 ∧ 0 ≤ k ∧ k ≤ 1000 ∧ ∀ z : Int, 0 ≤ z → Q (.int z) H
theorem ok_law_row (T : Txt K mg) : FnOk P w K mg base CX0 1 T.a_law_row T.fd_law_row ["script", "k"] (sp_row K) := by
  refine T.F_law_row.ok sc_law_row (fun vs H Q E h => ?_) (fun cdv A outer s H vs Q E hr h => ?_)
  · obtain ⟨a, ns, k, rfl, _⟩ := h
    rfl
  · refine ⟨_, (pss_cons (ps_set (i := 2) sc_law_row.nd rfl (Or.inl rfl) (pv 1))
       (C8.pss_cut (ps_if (pt_cmpR op_gt (pe_callB (c_len) (by rfl) T.n_len (by decide +kernel) (pa_cons (pv 0) pa_nil)) pe_int (nomark _))
       (pss_one (ps_set (i := 2) sc_law_row.nd rfl (Or.inl rfl) (pe_callTy c_int (by rfl) T.n_int (by decide +kernel) (pa_cons (pe_ix ix_list (pv 0) (pe_op op_mod (pv 1) (pe_callB (c_len) (by rfl) T.n_len (by decide +kernel) (pa_cons (pv 0) pa_nil))) (fun _ _ => rfl)) pa_nil))))
       pss_nil)
       (C8.pss_cut (ps_if (pt_cmpR op_lt (pv 2) pe_int (nomark _))
       (pss_one (ps_set (i := 2) sc_law_row.nd rfl (Or.inl rfl) (pe_op op_sub (pe_op op_mul (pe_un un_neg pe_int) (pv 2)) pe_int)))
       pss_nil)
       (C8.pss_cut (ps_if (PW.pt (pw_and (pt_cmpR op_lt (pv 1) (pe_callB (c_len) (by rfl) T.n_len (by decide +kernel) (pa_cons (pv 0) pa_nil)) (nomark _)) (pw_and1 (pt_cmpR op_ge (pv 2) (pe_op op_pow pe_int pe_int) (nomark _)))))
       (pss_one (ps_ret (pv 2)))
       pss_nil)
       (pss_cons (ps_set (i := 3) sc_law_row.nd rfl (Or.inl rfl) (pe_op op_mod (pe_callTy c_int (by rfl) T.n_int (by decide +kernel) (pa_cons (pe_op op_add (pe_op op_add (pe_op op_mul (pv 2) pe_int) (pe_op op_mul (pv 1) pe_int)) pe_int) pa_nil)) pe_int))
       (pss_cons (ps_set (i := 4) sc_law_row.nd rfl (Or.inl rfl) (pe_op op_mod (pe_callTy c_int (by rfl) T.n_int (by decide +kernel) (pa_cons (pe_op op_add (pe_op op_add (pe_op op_add (pe_op op_mul (pv 3) pe_int) (pv 2)) (pe_op op_mul (pv 1) pe_int)) pe_int) pa_nil)) pe_int))
       (pss_cons (ps_set (i := 3) sc_law_row.nd rfl (Or.inl rfl) (pe_op op_mod (pe_callTy c_int (by rfl) T.n_int (by decide +kernel) (pa_cons (pe_op op_add (pe_op op_add (pe_op op_mul (pv 3) pe_int) (pe_op op_mul (pv 4) pe_int)) (pv 1)) pa_nil)) pe_int))
       (pss_one (ps_ret (pe_op op_add (pe_op op_mul (pv 4) pe_int) (pv 3))))))))))), ?_⟩
    try dsimp only [cxOf, Cx.nox, Cx.wish]
    obtain ⟨a, ns, k, rfl, hS, h63, k0, k1, q⟩ := h
    walk_at "rd"
    refine r_cut (fun σ' H' => ∃ z : Int, σ' = [some (.ref a), some (.int k), some (.int z), none, none] ∧ H = H') ?_ ?_
    · walk_at "rd"
      refine r_ite (fun hlen => ?_) (fun _ => ?_)
      · rw [List.length_map] at hlen
        walk_at "rd"
        rename_i z hz z0 z1
        rw [List.length_map] at z1
        refine r_ixl hS (v := .int (ns.getD z.toNat 0)) ?_ ?_
        · obtain ⟨n, rfl⟩ := Int.eq_ofNat_of_zero_le z0
          refine atI_nat ?_
          have hn : n < ns.length := by omega
          rw [List.getElem?_map, List.getElem?_eq_getElem hn, List.getD_eq_getElem?_getD, Int.toNat_natCast, List.getElem?_eq_getElem hn]
          rfl
        · walk_at "rd"
          exact ⟨_, rfl, rfl⟩
      · exact ⟨_, rfl, rfl⟩
    · rintro _ _ ⟨z, rfl, rfl⟩
      walk_at "rd"
      refine r_cut (fun σ' H' => ∃ z : Int, 0 ≤ z ∧ σ' = [some (.ref a), some (.int k), some (.int z), none, none] ∧ H = H') ?_ ?_
      · walk_at "rd"
        refine r_ite (fun _ => ?_) (fun _ => ?_)
        · walk_at "rd"
          exact ⟨_, by omega, rfl, rfl⟩
        · exact ⟨_, by omega, rfl, rfl⟩
      · rintro _ _ ⟨y, y0, rfl, rfl⟩
        walk_at "rd"
        refine r_cutS ?_ ?_
        · walk_at "rd"
          refine r_ite (fun _ => ?_) (fun _ => ?_)
          · walk_at "rd"
            refine r_ite (fun _ => ?_) (fun _ => ?_)
            · walk_at "rd"
              exact q _ y0
            · exact ⟨rfl, rfl⟩
          · walk_at "rd"
            exact ⟨rfl, rfl⟩
        · walk_at "rd"
          exact q _ (by omega)

/-! ### enumerate of a list -/
def kIe (K : PySem.W.Frag) (R : It → Hp → Prop) : List V → Hp → Prop := fun vs H1 => ∃ a xs, vs = [.ref a] ∧ SqL K H1 a xs ∧ R (Ite K a) H1
theorem r_ienum {K : PySem.W.Frag} {ta : TA} {σ : L2.St} {H : Hp} {R : It → Hp → Prop} (h : ta σ H (kIe K R)) : iEnum K ta σ H R := h
theorem r_kIe {K : PySem.W.Frag} {a : Addr} {xs : List V} {H : Hp} {R : It → Hp → Prop} (h1 : SqL K H a xs) (h : R (Ite K a) H) : kIe K R [.ref a] H := ⟨a, xs, rfl, h1, h⟩
theorem r_forE {K : PySem.W.Frag} {a : Addr} {xs : List V} {σ : L2.St} {H : Hp} {D : Ends} {g : TG} {tb : TS} (Pv : Nat → L2.St → Hp → Prop) (h0 : Pv 0 σ H) (hl : ∀ i σ H, i ≤ xs.length → Pv i σ H → SqL K H a xs)
    (hs : ∀ (i : Nat) (x : V) (σ : L2.St) (H H' : Hp) (T : Addr), xs[i]? = some x → Pv i σ H → H T = none → upd H T (.tup [.int (i : Nat), x]) = H' → g (.ref T) σ H' fun σ2 H2 => tb { D with nx := Pv (i + 1), ct := Pv (i + 1), bk := D.nx } σ2 H2)
    (hd : ∀ σ H, Pv xs.length σ H → D.nx σ H) : kFor g tb D σ (Ite K a) H :=
  for_it walk_enum Pv h0 hl (fun i x σ H H' hlt p y => by
    obtain ⟨T, z, w, e1, e2, e3, e4, e5⟩ := y
    cases e4
    rw [e1]
    exact hs i w σ H H' T e5 p e2 e3.symm) hd
def SqI (K : PySem.W.Frag) (H : Hp) (l : Addr) (ns : List Int) : Prop := SqL K H l (ns.map V.int) ∨ SqT K H l (ns.map V.int)
theorem SqI.mono {K : PySem.W.Frag} {H H' : Hp} {l : Addr} {ns : List Int} (s : Same H H') (h : SqI K H l ns) : SqI K H' l ns := h.imp (fun h => s.seq h) (fun h => Same.tup s h)
theorem inV_ints (k : Int) : ∀ ns : List Int, inV (.int k) (ns.map V.int) = decide (k ∈ ns)
  | [] => rfl
  | n :: ns => by
    have ih := inV_ints k ns
    unfold inV at ih ⊢
    rw [List.map_cons, List.any_cons, ih]
    by_cases e : k = n
    · subst e
      simp [eqV]
    · have e' : ¬ n = k := fun z => e z.symm
      simp [eqV, e, e']
theorem flat_ints : ∀ ns : List Int, (ns.map V.int).all flatV = true
  | [] => rfl
  | n :: ns => by rw [List.map_cons, List.all_cons, flat_ints ns]; rfl

theorem r_neI {K : PySem.W.Frag} {H : Hp} {a b : Addr} {ns : List Int} {Q : V → Hp → Prop} (ha : SqL K H a (ns.map V.int)) (hb : SqL K H b (ns.map V.int)) (q : Q (.bl false) H) : rNeD K (.ref a) (.ref b) H Q := by
  refine r_ned (Dp.ints ha) (Dp.ints hb) (Fl.intlS ns) (Fl.intlS ns) ?_
  rw [(Fl.intl ns).self]
  exact q
theorem r_eqI {K : PySem.W.Frag} {H : Hp} {a b : Addr} {ns : List Int} {Q : V → Hp → Prop} (ha : SqL K H a (ns.map V.int)) (hb : SqL K H b (ns.map V.int)) (q : Q (.bl true) H) : rEqD K (.ref a) (.ref b) H Q := by
  refine r_eqd (Dp.ints ha) (Dp.ints hb) (Fl.intlS ns) (Fl.intlS ns) ?_
  rw [(Fl.intl ns).self]
  exact q

/-! ### comprehensions whose items follow from what is walked -/
theorem r_lcF {α : Type} {J : It} {n slot : Nat} {G : Hp → Prop} {Y : Nat → Hp → V → Hp → Prop} {vs : List Nat} {te : TE} {σ : L2.St} {H : Hp} {Q : V → Hp → Prop} (w : Walk J n G Y) (xs : List α) (hn : xs.length = n) (hmax : n ≤ 100000) (g f : α → V)
    (hY : ∀ i H x H', Y i H x H' → H' = H ∧ ∃ u, xs[i]? = some u ∧ x = g u) (hG : ∀ H', L2.Same H H' → G H') (hv : vs = [slot])
    (hs : ∀ (i : Nat) (u : α) (H' : Hp), xs[i]? = some u → L2.Same H H' → ∀ R : V → Hp → Prop, (∀ H'', L2.Same H' H'' → R (f u) H'') → te ((wipe σ vs).set slot (some (g u))) H' R)
    (q : ∀ (H' : Hp) (l : Addr), L2.Same H H' → H l = none → H' l = some (.lst (xs.map f)) → Q (.ref l) H') : kLc (gName slot) tYes te vs σ Q J H := by
  intro L hL
  have hw : ∀ (τ : L2.St) (x : V), wipe (τ.set slot (some x)) [slot] = wipe τ [slot] := fun τ x => by simp [wipe, List.set_set]
  have hw2 : wipe (wipe σ vs) vs = wipe σ vs := by subst hv; simp [wipe, List.set_set]
  refine lc_it w (fun i H' => H' L = some (.lst ((xs.take i).map f)) ∧ L2.Same H H') ⟨upd_same, fun b o e => by rw [upd_ne (ne_of_none e hL)]; exact e⟩ (fun i H' _ p => hG H' p.2) ?_ ?_
  · rintro i x H' H'' hi ⟨eL, s⟩ y
    obtain ⟨rfl, u, hu, rfl⟩ := hY _ _ _ _ y
    refine ⟨?_, ?_⟩
    · subst hv
      rw [hw]
      exact hw2
    · show te ((wipe σ vs).set slot (some (g u))) H'' _
      refine hs i u _ hu s _ fun H3 s3 => ⟨_, s3 _ _ eL, ?_, ?_, ?_⟩
      · rw [List.length_map, List.length_take, sz]
        omega
      · rw [upd_same, List.take_add_one, hu, List.map_append]
        rfl
      · intro b o e
        rw [upd_ne (ne_of_none e hL)]
        exact s3 _ _ (s _ _ e)
  · rintro H' ⟨eL, s⟩
    rw [← hn, List.take_length] at eL
    exact q H' L s hL eL
theorem r_lcS {z : Str} {slot : Nat} {vs : List Nat} {te : TE} {σ : L2.St} {H : Hp} {Q : V → Hp → Prop} (f : Nat → V) (hmax : z.length ≤ 100000) (hv : vs = [slot])
    (hs : ∀ (i : Nat) (c : Nat) (H' : Hp), z.cps.toList[i]? = some c → L2.Same H H' → ∀ R : V → Hp → Prop, (∀ H'', L2.Same H' H'' → R (f c) H'') → te ((wipe σ vs).set slot (some (.str (SX.S [c])))) H' R)
    (q : ∀ (H' : Hp) (l : Addr), L2.Same H H' → H l = none → H' l = some (.lst (z.cps.toList.map f)) → Q (.ref l) H') : kLc (gName slot) tYes te vs σ Q (Its z) H :=
  r_lcF walk_str z.cps.toList (Array.length_toList) hmax (fun c => .str (SX.S [c])) f (fun i H x H' ⟨e, c, hc, hx⟩ => ⟨e, c, by simpa using hc, hx⟩) (fun _ _ => trivial) hv hs q
theorem r_lcLF {K : PySem.W.Frag} {a : Addr} {ns : List Int} {slot : Nat} {vs : List Nat} {te : TE} {σ : L2.St} {H : Hp} {Q : V → Hp → Prop} (f : Int → V) (hx : SqL K H a (ns.map V.int)) (hmax : ns.length ≤ 100000) (hv : vs = [slot])
    (hs : ∀ (i : Nat) (c : Int) (H' : Hp), ns[i]? = some c → L2.Same H H' → ∀ R : V → Hp → Prop, (∀ H'', L2.Same H' H'' → R (f c) H'') → te ((wipe σ vs).set slot (some (.int c))) H' R)
    (q : ∀ (H' : Hp) (l : Addr), L2.Same H H' → H l = none → H' l = some (.lst (ns.map f)) → Q (.ref l) H') : kLc (gName slot) tYes te vs σ Q (Itl K a) H :=
  r_lcF (walk_list (K := K) (a := a) (xs := ns.map V.int)) ns (by rw [List.length_map]) (by rw [List.length_map]; exact hmax) V.int f (fun i H x H' ⟨e, hx⟩ => by
    rw [List.getElem?_map] at hx
    obtain ⟨y, hy, rfl⟩ := Option.map_eq_some_iff.mp hx
    exact ⟨e, y, hy, rfl⟩) (fun H' s => s.seq hx) hv hs q
theorem r_lcTF {K : PySem.W.Frag} {a : Addr} {ns : List Int} {slot : Nat} {vs : List Nat} {te : TE} {σ : L2.St} {H : Hp} {Q : V → Hp → Prop} (f : Int → V) (hx : SqT K H a (ns.map V.int)) (hmax : ns.length ≤ 100000) (hv : vs = [slot])
    (hs : ∀ (i : Nat) (c : Int) (H' : Hp), ns[i]? = some c → L2.Same H H' → ∀ R : V → Hp → Prop, (∀ H'', L2.Same H' H'' → R (f c) H'') → te ((wipe σ vs).set slot (some (.int c))) H' R)
    (q : ∀ (H' : Hp) (l : Addr), L2.Same H H' → H l = none → H' l = some (.lst (ns.map f)) → Q (.ref l) H') : kLc (gName slot) tYes te vs σ Q (Itt K a) H :=
  r_lcF (walk_tup (K := K) (a := a) (xs := ns.map V.int)) ns (by rw [List.length_map]) (by rw [List.length_map]; exact hmax) V.int f (fun i H x H' ⟨e, hx⟩ => by
    rw [List.getElem?_map] at hx
    obtain ⟨y, hy, rfl⟩ := Option.map_eq_some_iff.mp hx
    exact ⟨e, y, hy, rfl⟩) (fun H' s => Same.tup s hx) hv hs q
/-! ### a list or a tuple is walked -/
def iSeq (K : PySem.W.Frag) (te : TE) : TI := fun σ H R => iList K te σ H R ∨ iTup K te σ H R
theorem pi_seq {X : Cx} {tg e : Expr} {te : TE} (h1 : PI X tg e (iList X.K te)) (h2 : PI X tg e (iTup X.K te)) : PI X tg e (iSeq X.K te) :=
  ⟨fun pins s σ H R I h => h.elim (h1.run pins s σ H R I) (h2.run pins s σ H R I)⟩
theorem r_lcSeq {K : PySem.W.Frag} {a : Addr} {ns : List Int} {j slot : Nat} {vs : List Nat} {te : TE} {σ : L2.St} {H : Hp} {Q : V → Hp → Prop} (f : Int → V) (h0 : σ[j]? = some (some (.ref a))) (hx : SqI K H a ns) (hmax : ns.length ≤ 100000) (hv : vs = [slot])
    (hs : ∀ (i : Nat) (c : Int) (H' : Hp), ns[i]? = some c → L2.Same H H' → ∀ R : V → Hp → Prop, (∀ H'', L2.Same H' H'' → R (f c) H'') → te ((wipe σ vs).set slot (some (.int c))) H' R)
    (q : ∀ (H' : Hp) (l : Addr), L2.Same H H' → H l = none → H' l = some (.lst (ns.map f)) → Q (.ref l) H') : iSeq K (tVar j) σ H (kLc (gName slot) tYes te vs σ Q) := by
  rcases hx with hx | hx
  · exact .inl ⟨_, h0, a, rfl, ⟨_, hx⟩, r_lcLF f hx hmax hv hs q⟩
  · exact .inr ⟨_, h0, a, rfl, ⟨_, hx⟩, r_lcTF f hx hmax hv hs q⟩
/-! ### texts -/
theorem r_addS {a b : Str} {H : Hp} {Q : V → Hp → Prop} (hl : a.length + b.length ≤ 1000000) (q : Q (.str (a ++ b)) H) : (fun x y H Q => ∃ i j, x = V.str i ∧ y = V.str j ∧ i.length + j.length ≤ sizeLine ∧ Q (V.str (i ++ j)) H : R2) (.str a) (.str b) H Q :=
  ⟨a, b, rfl, rfl, by rw [sz]; omega, q⟩
theorem r_ixs {z : Str} {i : Int} {c : Nat} {H : Hp} {Q : V → Hp → Prop} (hl : z.length ≤ 1000000) (e : atI z.cps.toList i = some c) (q : Q (.str (SX.S [c])) H) : rIxS (.str z) (.int i) H Q := ⟨z, i, c, rfl, rfl, by rw [sz]; omega, e, q⟩
theorem app_tl (a b : Str) : (a ++ b).cps.toList = a.cps.toList ++ b.cps.toList := TL.tl_append a b
theorem app_len (a b : Str) : (a ++ b).length = a.length + b.length := by
  show (a.cps ++ b.cps).size = _
  rw [Array.size_append]
  rfl
theorem len_tl (z : Str) : z.cps.toList.length = z.length := Array.length_toList
def goodN (c : Nat) : Bool := decide (32 ≤ c) && (decide (c ≤ 126) && !decide (c = 37))
def goodI (i : Int) : Bool := decide (32 ≤ i) && (decide (i ≤ 126) && !decide (i = 37))
theorem goodI_nat (c : Nat) : goodI (c : Int) = goodN c := by
  unfold goodI goodN
  rw [Bool.eq_iff_iff]
  simp only [Bool.and_eq_true, decide_eq_true_eq, Bool.not_eq_true', decide_eq_false_iff_not]
  omega
theorem goodI_iff {i : Int} : goodI i = true ↔ 32 ≤ i ∧ i ≤ 126 ∧ i ≠ 37 := by
  unfold goodI
  simp only [Bool.and_eq_true, decide_eq_true_eq, Bool.not_eq_true', decide_eq_false_iff_not, ne_eq]
theorem goodI_false {i : Int} (h : ¬ (32 ≤ i ∧ i ≤ 126 ∧ i ≠ 37)) : goodI i = false := by
  cases e : goodI i with
  | false => rfl
  | true => exact absurd (goodI_iff.mp e) h
/-- the octets of a text -/
def ocs (z : Str) : List Int := z.cps.toList.map fun c : Nat => (c : Int)
theorem ocs_back (z : Str) : SX.S ((ocs z).map Int.toNat) = z := by
  unfold ocs
  rw [List.map_map]
  have e : (Int.toNat ∘ fun c : Nat => (c : Int)) = id := by funext c; rfl
  rw [e, List.map_id]
theorem ocs_good (z : Str) : (ocs z).all goodI = z.cps.toList.all goodN := by
  unfold ocs
  rw [List.all_map, show (goodI ∘ fun c : Nat => (c : Int)) = goodN from funext goodI_nat]
theorem ocs_S {ns : List Int} (h : ∀ x ∈ ns, 0 ≤ x) : ocs (SX.S (ns.map Int.toNat)) = ns := by
  unfold ocs
  show (ns.map Int.toNat).map (fun c : Nat => (c : Int)) = ns
  rw [List.map_map]
  conv => rhs; rw [← List.map_id ns]
  refine List.map_congr_left fun x hx => ?_
  have := h x hx
  show ((x.toNat : Nat) : Int) = x
  omega
theorem joinL_one : ∀ l : List Nat, TL.joinL [] (l.map fun c => [c]) = l
  | [] => rfl
  | [c] => rfl
  | c :: d :: r => by
    have ih := joinL_one (d :: r)
    rw [List.map_cons, List.map_cons]
    rw [List.map_cons] at ih
    show [c] ++ ([] ++ TL.joinL [] ([d] :: r.map fun c => [c])) = c :: d :: r
    rw [ih]
    rfl
theorem sum_ones : ∀ l : List Nat, ((l.map fun c => SX.S [c]).map (·.length)).sum = l.length
  | [] => rfl
  | c :: r => by
    rw [List.map_cons, List.map_cons, List.sum_cons, sum_ones r, SX.S_len, List.length_cons, List.length_cons, List.length_nil]
    omega

/-! ### slices of lists of ints -/
theorem sIx_nn {n d : Nat} {v : Int} (h : 0 ≤ v) : HT.sIx n d (some v) = min v.toNat n := by
  show (if v < 0 then (v + (n : Int)).toNat else min v.toNat n) = _
  rw [if_neg (by omega)]
theorem cut_from {xs : List V} {lo : Int} (h : 0 ≤ lo) : cutV xs (some lo) none = xs.drop lo.toNat := by
  unfold cutV
  rw [sIx_nn h, HT.sIx_none]
  by_cases c : lo.toNat ≤ xs.length
  · rw [Nat.min_eq_left c]
    exact List.take_of_length_le (by rw [List.length_drop]; omega)
  · rw [Nat.min_eq_right (by omega), List.drop_length, List.drop_of_length_le (by omega), List.take_nil]
theorem cut_to {xs : List V} {hi : Int} (h : 0 ≤ hi) : cutV xs none (some hi) = xs.take hi.toNat := by
  unfold cutV
  rw [sIx_nn h, HT.sIx_none, List.drop_zero, Nat.sub_zero]
  by_cases c : hi.toNat ≤ xs.length
  · rw [Nat.min_eq_left c]
  · rw [Nat.min_eq_right (by omega), List.take_length, List.take_of_length_le (by omega)]
theorem cut_both {xs : List V} {lo hi : Int} (h : 0 ≤ lo) (h' : 0 ≤ hi) : cutV xs (some lo) (some hi) = (xs.drop lo.toNat).take (hi.toNat - lo.toNat) := by
  unfold cutV
  rw [sIx_nn h, sIx_nn h']
  by_cases c : lo.toNat ≤ xs.length
  · rw [Nat.min_eq_left c]
    by_cases c2 : hi.toNat ≤ xs.length
    · rw [Nat.min_eq_left c2]
    · rw [Nat.min_eq_right (by omega), List.take_of_length_le (by rw [List.length_drop]; omega), List.take_of_length_le (by rw [List.length_drop]; omega)]
  · rw [Nat.min_eq_right (by omega : xs.length ≤ lo.toNat), List.drop_length, List.drop_of_length_le (by omega), List.take_nil, List.take_nil]

/-! ### numbers in octets: the mathematics -/
def octN : Int → Nat → List Int
  | _, 0 => []
  | n, k + 1 => n % 256 :: octN (n / 256) k
def val : List Int → Int
  | [] => 0
  | x :: r => val r * 256 + x
theorem octN_len : ∀ (k : Nat) (n : Int), (octN n k).length = k
  | 0, _ => rfl
  | k + 1, n => by rw [octN, List.length_cons, octN_len k]
theorem octN_at : ∀ (k i : Nat) (n : Int), i < k → (octN n k)[i]? = some (n / 2 ^ (8 * i) % 2 ^ 8)
  | 0, i, n, h => by omega
  | k + 1, 0, n, h => by
    rw [octN, List.getElem?_cons_zero, Nat.mul_zero, Int.pow_zero, Int.ediv_one]
    rfl
  | k + 1, i + 1, n, h => by
    rw [octN, List.getElem?_cons_succ, octN_at k i (n / 256) (by omega)]
    have e : n / 256 / 2 ^ (8 * i) = n / 2 ^ (8 * (i + 1)) := by
      rw [Int.ediv_ediv_of_nonneg (by decide), Nat.mul_add, Int.pow_add, Int.mul_comm]
      rfl
    rw [e]
theorem octN_byte : ∀ (k : Nat) (n x : Int), x ∈ octN n k → 0 ≤ x ∧ x < 256
  | 0, n, x, h => by cases h
  | k + 1, n, x, h => by
    rw [octN] at h
    rcases List.mem_cons.mp h with rfl | h
    · omega
    · exact octN_byte k _ x h
theorem val_octN : ∀ (k : Nat) (n : Int), val (octN n k) = n % 256 ^ k
  | 0, n => by rw [octN, val, Int.pow_zero, Int.emod_one]
  | k + 1, n => by
    rw [octN, val, val_octN k]
    have h1 : n / 256 % 256 ^ k = n / 256 - 256 ^ k * (n / 256 / 256 ^ k) := Int.emod_def ..
    have h2 : n % 256 ^ (k + 1) = n - 256 ^ (k + 1) * (n / 256 ^ (k + 1)) := Int.emod_def ..
    have h3 : n / 256 / 256 ^ k = n / 256 ^ (k + 1) := by
      rw [Int.ediv_ediv_of_nonneg (by decide), Int.pow_succ, Int.mul_comm]
    have h4 : (256 : Int) ^ (k + 1) = 256 ^ k * 256 := Int.pow_succ ..
    rw [h1, h2, h3, h4, Int.sub_mul, Int.mul_right_comm]
    generalize (256 : Int) ^ k * 256 * (n / (256 ^ k * 256)) = u
    omega
theorem octN_val : ∀ (l : List Int), (∀ x ∈ l, 0 ≤ x ∧ x < 256) → octN (val l) l.length = l
  | [], _ => rfl
  | x :: r, h => by
    obtain ⟨a, b⟩ := h x List.mem_cons_self
    rw [val, List.length_cons, octN]
    have e1 : (val r * 256 + x) % 256 = x := by omega
    have e2 : (val r * 256 + x) / 256 = val r := by omega
    rw [e1, e2, octN_val r fun y hy => h y (List.mem_cons_of_mem _ hy)]
theorem val_nn : ∀ (l : List Int), (∀ x ∈ l, 0 ≤ x ∧ x < 256) → 0 ≤ val l
  | [], _ => Int.le_refl _
  | x :: r, h => by
    have h1 := val_nn r fun y hy => h y (List.mem_cons_of_mem _ hy)
    obtain ⟨a, b⟩ := h x List.mem_cons_self
    rw [val]
    omega
theorem ext_at {l l' : List Int} {n : Nat} (hl : l.length = n) (hl' : l'.length = n) (h : ∀ i x, i < n → l[i]? = some x → l'[i]? = some x) : l = l' := by
  refine List.ext_getElem? fun i => ?_
  by_cases c : i < n
  · have e := List.getElem?_eq_getElem (l := l) (i := i) (by omega)
    rw [e, h i _ c e]
  · rw [List.getElem?_eq_none (by omega), List.getElem?_eq_none (by omega)]

section
open PySem.Spec PyProof.Rows
/-! ### text * int; the signs of a text, one by one -/
def mulS (s : Str) (n : Nat) : Str := SX.S (List.replicate n s.cps.toList).flatten
theorem fold_app (x : Array Nat) : ∀ (n : Nat) (acc : Array Nat), ((List.replicate n x).foldl (· ++ ·) acc).toList = acc.toList ++ (List.replicate n x.toList).flatten
  | 0, acc => by simp
  | n + 1, acc => by
    rw [List.replicate_succ, List.foldl_cons, fold_app x n, List.replicate_succ, List.flatten_cons, Array.toList_append, List.append_assoc]
def rMulS : R2 := fun x y H Q => ∃ (s : Str) (n : Int), x = .str s ∧ y = .int n ∧ -1000000 ≤ n ∧ n ≤ 1000000 ∧ s.length * n.toNat ≤ 1000000 ∧ Q (.str (mulS s n.toNat)) H
theorem str_ext {a b : Str} (h : a.cps.toList = b.cps.toList) : a = b := by
  cases a; cases b
  exact congrArg _ (Array.toList_inj.mp h)
theorem op_mulS {X : Cx} : OpR X (binaryOp .Mult) rMulS := by
  intro pins z σ H x y v u Q I rx ry h
  obtain ⟨s, n, rfl, rfl, n0, n1, hl, q⟩ := h
  obtain ⟨t, rfl⟩ := rx
  obtain ⟨t2, rfl⟩ := ry
  have e0 : ¬ n < -(2 ^ 63 : Int) := by omega
  have e1 : ¬ n ≥ 2 ^ 63 := by omega
  refine PySem.P.mul_str (by rw [decide_eq_false e0, decide_eq_false e1]; rfl) (fun h1 _ => ?_) (fun h1 _ => ?_) ?_
  · have hp : 0 < n := by omega
    have h2 : (s.length : Int) * n ≤ 2 ^ 63 - 1 := by
      have : (s.length : Int) * n = ((s.length * n.toNat : Nat) : Int) := by rw [Int.natCast_mul, Int.toNat_of_nonneg (by omega)]
      rw [this]
      omega
    have := (Int.le_ediv_iff_mul_le hp).mpr h2
    omega
  · show decide (s.length * n.toNat > sizeLine) = false
    exact decide_eq_false (by rw [sizeLine_eq]; omega)
  · by_cases c : n < 1
    · rw [if_pos c]
      refine ⟨by decide, ⟨.str (mulS s n.toNat), H, I.tok _, ⟨z.toks, ?_⟩, q⟩⟩
      rw [show n.toNat = 0 by omega]
      rfl
    · rw [if_neg c]
      by_cases d : (n == 1 || s.length == 0) = true
      · rw [if_pos d]
        have : mulS s n.toNat = s := by
          refine str_ext ?_
          show (List.replicate n.toNat s.cps.toList).flatten = s.cps.toList
          rcases Bool.or_eq_true_iff.mp d with d | d
          · have : n = 1 := eq_of_beq d
            subst this
            simp
          · have : s.length = 0 := eq_of_beq d
            have : s.cps.toList = [] := List.eq_nil_of_length_eq_zero (by rw [Array.length_toList]; exact this)
            rw [this]
            simp
        exact ⟨.str (mulS s n.toNat), H, I, ⟨t, by rw [this]⟩, q⟩
      · rw [if_neg d]
        refine ⟨?_, ⟨.str (mulS s n.toNat), H, I.tok _, ⟨z.toks, ?_⟩, q⟩⟩
        · have : ((List.replicate n.toNat s.cps).foldl (· ++ ·) #[]).size ≤ sizeLine := by
            rw [← Array.length_toList, fold_app, List.length_append, List.length_flatten, List.map_replicate, List.sum_replicate_nat, sizeLine_eq, Array.length_toList]
            show 0 + n.toNat * s.cps.size ≤ _
            have : n.toNat * s.cps.size = s.length * n.toNat := Nat.mul_comm ..
            omega
          exact this
        · refine congrArg (fun q => Value.str q _) (str_ext ?_)
          show ((List.replicate n.toNat s.cps).foldl (· ++ ·) #[]).toList = (List.replicate n.toNat s.cps.toList).flatten
          rw [fold_app]
          rfl
theorem r_mulS {s : Str} {n : Int} {H : Hp} {Q : V → Hp → Prop} (n0 : -1000000 ≤ n) (n1 : n ≤ 1000000) (hl : s.length * n.toNat ≤ 1000000) (q : Q (.str (mulS s n.toNat)) H) : rMulS (.str s) (.int n) H Q := ⟨s, n, rfl, rfl, n0, n1, hl, q⟩
theorem mulS_one {s : Str} {c : Nat} (h : s = SX.S [c]) (n : Nat) : (mulS s n).cps.toList = List.replicate n c := by
  subst h
  show (List.replicate n [c]).flatten = _
  induction n with
  | zero => rfl
  | succ n ih => rw [List.replicate_succ, List.flatten_cons, ih]; rfl
/-- for sign in text -/
theorem r_forS {z : Str} {g : TG} {tb : TS} {D : Ends} {σ : L2.St} {H : Hp} (Pv : Nat → L2.St → Hp → Prop) (h0 : Pv 0 σ H)
    (hs : ∀ (i c : Nat) (σ : L2.St) (H : Hp), z.cps.toList[i]? = some c → Pv i σ H → g (.str (SX.S [c])) σ H fun σ2 H2 => tb { D with nx := Pv (i + 1), ct := Pv (i + 1), bk := D.nx } σ2 H2) (hd : ∀ σ H, Pv z.length σ H → D.nx σ H) : kFor g tb D σ (Its z) H :=
  for_it walk_str Pv h0 (fun _ _ _ _ _ => trivial) (fun i x σ H H' _ p ⟨e, c, hc, hx⟩ => by subst e; subst hx; exact hs i c σ _ (by simpa using hc) p) hd

/-! ### xs[a:b] = ys, either end left out -/
def cutA (n : Nat) (lo : Option Int) : Nat := lo.elim 0 (clipAt n)
def cutC (n : Nat) (hi : Option Int) : Nat := hi.elim n (clipAt n)
theorem cutC_le (n : Nat) (hi : Option Int) : cutC n hi ≤ n := by
  cases hi with
  | none => exact Nat.le_refl n
  | some i =>
    have h := clipAt_cast n i
    show clipAt n i ≤ n
    omega
theorem cutA_le (n : Nat) (lo : Option Int) : cutA n lo ≤ n := by
  cases lo with
  | none => exact Nat.zero_le n
  | some i => exact cutC_le n (some i)
theorem join_cut (xs ys : List Value) (a c : Nat) : xs.toArray.extract 0 a ++ ys.toArray ++ xs.toArray.extract c xs.toArray.size = (xs.take a ++ ys ++ xs.drop c).toArray := Array.toList_inj.mp (by
  simp only [Array.toList_append, Array.toList_extract, List.size_toArray, List.extract_eq_take_drop, List.drop_zero, Nat.sub_zero]
  rw [show (xs.drop c).take (xs.length - c) = xs.drop c from List.take_of_length_le (by rw [List.length_drop]; exact Nat.le_refl _)])
theorem store_cut {X : Cx} {pins : List (Addr × Obj)} {s : Shared} {σ : L2.St} {H : Hp} {l b sl : Addr} {xs ys : List V} {lo hi : Option Int} {vl vu : Value} {Q : Unit → Shared → Prop} (I : Inv X pins σ H s) (hx : H l = some (.lst xs)) (hy : H b = some (.lst ys)) (hne : l ≠ b)
    (hs : s.heap.IsSliceOf sl vl vu .none) (pl : IsPart vl lo) (pu : IsPart vu hi) (hz : xs.length + ys.length ≤ sizeLine)
    (h : ∀ s', Inv X pins σ (upd H l (.lst (xs.take (cutA xs.length lo) ++ ys ++ xs.drop (max (cutA xs.length lo) (cutC xs.length hi))))) s' → Q () s') : wpAny (model X.prog X.w) X.A (setItem (.ref l) (.ref sl) (.ref b)) Q X.xe s := by
  obtain ⟨_, us, n1, r1, len1, e1⟩ := I.lstM hx
  obtain ⟨_, ws, n2, r2, len2, e2⟩ := I.lstM hy
  have L1 : s.heap.IsList l us.toArray := PySem.IsL.isList e1
  have L2 : s.heap.IsList b ws.toArray := PySem.IsL.isList e2
  obtain ⟨so, hso, hsc, hsd⟩ := id hs
  have ne' : Builtin.List.listSameRef (.ref l) (.ref b) = false := beq_eq_false_iff_ne.mpr hne
  have hz1 : us.toArray.size + ws.toArray.size ≤ sizeLine := by rw [List.size_toArray, List.size_toArray]; omega
  have bds := sliceBounds_plain lo hi us.toArray.size
  have cA := cutA_le us.toArray.size lo
  have cC := cutC_le us.toArray.size hi
  rw [show (lo.elim 0 (clipAt us.toArray.size)) = cutA us.toArray.size lo from rfl, show (hi.elim us.toArray.size (clipAt us.toArray.size)) = cutC us.toArray.size hi from rfl] at bds
  unfold setItem
  try with_reducible refine wpAny_holding ?_
  first | refine wpAny_bind (wpAny_pure ?_) | skip
  refine wpAny_bind (wpAny_sequenceKey L1.typeIs (by decide) ?_)
  refine wpAny_bind (wpAny_callSpecial?_slot (name := Str.ofString "__setitem__") L1.typeIs slot_list_setitem (wpAny_call_entry slot_list_setitem L1.typeIs entry_list_setitem ?body (args_list_setitem _ _ _)))
  case body =>
    show wpAny _ _ (Builtin.List.listSubscript? (.ref sl) >>= _) _ _ s
    unfold Builtin.List.listSubscript?
    refine wpAny_bind (wpAny_bind (wpAny_specialOf ⟨so, hso, hsc⟩ slice_no_index ?_))
    simp only [Option.isNone_none, if_true]
    refine wpAny_pure ?_
    show wpAny _ _ (typeOf (.ref sl) >>= _) _ _ s
    refine wpAny_bind (wpAny_typeOf ⟨so, hso, hsc⟩ ?_)
    first | rw [if_neg (by decide)] | refine PySem.W.KFB.if_not (by decide) ?_
    rw [listSliceParts_eq]
    refine wpAny_bind (wpAny_bind (wpAny_field hso hsd (x := .none) rfl (wpAny_bind (wpAny_listPart .none ?_))))
    rw [if_neg (show ¬ ((rawPart none == rawInt 0) = true) from Bool.false_ne_true)]
    refine wpAny_bind (wpAny_field hso hsd (x := vl) rfl (wpAny_bind (wpAny_listPart pl (wpAny_bind (wpAny_field hso hsd (x := vu) rfl (wpAny_bind (wpAny_listPart pu (wpAny_pure ?_))))))))
    first
      | simp only [ne', Bool.false_eq_true, if_false]
      | refine PySem.W.KFB.if_not ne' ?_
      | (dsimp only; rw [if_neg (by rw [ne']; exact Bool.false_ne_true)])
    refine wpAny_bind (m := Builtin.List.listAllItems (.ref b) "must assign iterable to extended slice") ?_
    unfold Builtin.List.listAllItems
    refine wpAny_bind (wpAny_typeOf L2.typeIs ?_)
    first | refine PySem.W.KFB.if_so (by decide) ?_ | rw [if_pos (by decide)] | simp only [beq_self_eq_true, Bool.true_or, if_true]
    unfold Builtin.List.listItems
    refine wpAny_bind (wpAny_seqItems e2 rfl (wpAny_pure (wpAny_bind (wpAny_bind (wpAny_seqItems e1 rfl (wpAny_pure ?_))))))
    refine wpAny_bind (wpAny_of_eq ((sliceIndices_raw lo hi none us.toArray.size (by simp)).trans (congrArg (pure : Int × Int × Int → Sem (Int × Int × Int)) bds)) ?_)
    show wpAny _ _ (if ((1 : Int) == 1) = true then _ else _) _ _ s
    rw [if_pos (by decide)]
    refine wpAny_bind (wpAny_rule ?_)
    first | simp only [notLongL hz1, Bool.false_eq_true, if_false] | refine PySem.W.KFB.if_not (notLongL hz1) ?_
    first | refine wpAny_bind (wpAny_pure ?_) | skip
    show wpAny _ _ (updateSeq l (fun q => q.extract 0 ((cutA us.toArray.size lo : Nat) : Int).toNat ++ ws.toArray ++ q.extract (max ((cutA us.toArray.size lo : Nat) : Int) ((cutC us.toArray.size hi : Nat) : Int)).toNat q.size) >>= _) _ _ s
    rw [show (max ((cutA us.toArray.size lo : Nat) : Int) ((cutC us.toArray.size hi : Nat) : Int)).toNat = max (cutA us.toArray.size lo) (cutC us.toArray.size hi) by omega, Int.toNat_natCast]
    refine wpAny_bind (wpAny_updateSeq (hz := Nat.le_trans (Nat.le_add_right _ _) hz1) (_hz' := by simp only [Array.size_append, Array.size_extract]; omega) e1 rfl ?_)
    have fin : Inv X pins σ (upd H l (.lst (xs.take (cutA xs.length lo) ++ ys ++ xs.drop (max (cutA xs.length lo) (cutC xs.length hi))))) { s with heap := s.heap.update l (Obj.mapSeq fun q => q.extract 0 (cutA us.toArray.size lo) ++ ws.toArray ++ q.extract (max (cutA us.toArray.size lo) (cutC us.toArray.size hi)) q.size), toks := s.toks } := by
      rw [show xs.length = us.toArray.size from by rw [List.size_toArray]; exact len1]
      refine I.lset (its' := us.take (cutA us.toArray.size lo) ++ ws ++ us.drop (max (cutA us.toArray.size lo) (cutC us.toArray.size hi))) hx e1 (join_cut us ws _ _) (Vals.append (Vals.append (r1.take _) r2) (r1.drop _)) ?_
      rw [List.length_append, List.length_append, List.length_take, List.length_drop]
      rw [List.size_toArray] at cA cC ⊢
      omega
    refine wpAny_bind (wpAny_letGo ?_)
    first
      | exact wpAny_bind (wpAny_pure (wpAny_pure ⟨.none, rfl, wpAny_pure (h _ fin)⟩))
      | exact wpAny_pure ⟨.none, rfl, wpAny_pure (h _ fin)⟩
/-- the target xs[a:b] -/
def gSls (to : TE) (tl th : TO) : TG := fun v σ H Q => to σ H fun x H1 => tl σ H1 fun lo H2 => th σ H2 fun hi H3 => ∃ (p b : Addr) (xs ys : List V), x = .ref p ∧ v = .ref b ∧ p ≠ b ∧ H3 p = some (.lst xs) ∧ H3 b = some (.lst ys) ∧ xs.length + ys.length ≤ sizeLine ∧
  Q σ (upd H3 p (.lst (xs.take (cutA xs.length lo) ++ ys ++ xs.drop (max (cutA xs.length lo) (cutC xs.length hi)))))
theorem pg_sls {X : Cx} {o : Expr} {lo hi : Option Expr} {p2 pos : Pos} {to : TE} {tl th : TO} (ho : PE X o to) (hl : PO X lo tl) (hh : PO X hi th)
    (ha : ∀ v, assign (.Subscript o (.Slice lo hi none p2) pos) X.env v = (do
      let ov ← holding [v] (eval o X.env)
      let iv ← holding [v, ov] (eval (.Slice lo hi none p2) X.env)
      standAt pos
      holding [v, ov, iv] (setItem ov iv v)
      release [iv, v, ov] []) := by intro _; rfl) : PG X (.Subscript o (.Slice lo hi none p2) pos) (gSls to tl th) := by
  refine ⟨fun pins s σ H v u Q I r h => ?_⟩
  rw [ha]
  refine wpAny_bind (wpAny_holding (thn (ho.run pins s σ H _ I h) fun ov z1 ⟨x, H1, I1, k1, q1⟩ => ?_))
  refine wpAny_bind (wpAny_holding (wpAny_Slice (thn (hl.run pins z1 σ H1 _ I1 q1) fun vl z2 ⟨l, H2, I2, pl, q2⟩ => thn (hh.run pins z2 σ H2 _ I2 q2) fun vu z3 ⟨m, H3, I3, pu, p, b, xs, ys, ex, ev, ne, hx, hy, hz, q3⟩ => ?_)))
  subst ex ev
  cases k1
  cases r
  rw [evalPart_none]
  refine wpAny_pure (wpAny_bind (wpAny_standAt (wpAny_bind (wpAny_holding ?_))))
  have I4 : Inv X pins σ H3 { z3 with heap := z3.heap.push { cls := .type "slice", data := .fields #[vl, vu, .none] } } := I3.kept (t' := z3.toks) fun c u e => Heap.get?_push_of_some _ e
  exact store_cut I4 hx hy ne (Heap.IsSliceOf.new ..) pl pu hz fun z4 I5 => wpAny_release ⟨σ, _, I5, q3⟩
theorem r_gsls {to : TE} {tl th : TO} {v : V} {σ : L2.St} {H : Hp} {Q : L2.St → Hp → Prop} (h : to σ H fun x H1 => tl σ H1 fun lo H2 => th σ H2 fun hi H3 => ∃ (p b : Addr) (xs ys : List V), x = .ref p ∧ v = .ref b ∧ p ≠ b ∧ H3 p = some (.lst xs) ∧ H3 b = some (.lst ys) ∧ xs.length + ys.length ≤ sizeLine ∧
  Q σ (upd H3 p (.lst (xs.take (cutA xs.length lo) ++ ys ++ xs.drop (max (cutA xs.length lo) (cutC xs.length hi)))))) : gSls to tl th v σ H Q := h

end
def sp_is_code : Sp := fun vs H Q _ => ∃ i : Int, vs = [.int i] ∧ Q (.bl (goodI i)) H
theorem ok_is_code (T : Txt K mg) : FnOk P w K mg base CX0 1 T.a_is_code T.fd_is_code ["number"] sp_is_code := by
  refine T.F_is_code.ok sc_is_code (fun vs H Q E h => ?_) (fun cdv A outer s H vs Q E hr h => ?_)
  · obtain ⟨i, rfl, _⟩ := h
    rfl
  · refine ⟨_, (pss_one (ps_ret (pe_and (pe_chain op_le op_le (pe_glob rfl T.c_FIRST_CODE T.r_FIRST_CODE) (pv 0) (pe_glob rfl T.c_LAST_CODE T.r_LAST_CODE)) (pe_one (pe_cmpR op_ne (pv 0) (pe_glob rfl T.c_PERCENT T.r_PERCENT) (nomark _)))))), ?_⟩
    try dsimp only [cxOf, Cx.nox, Cx.wish]
    obtain ⟨i, rfl, q⟩ := h
    walk_at "rd"
    refine r_ite (fun c1 => ?_) (fun c1 => ?_)
    · walk_at "rd"
      refine r_ite (fun c2 => ?_) (fun c2 => ?_)
      · walk_at "rd"
        rw [goodI, decide_eq_true c1, decide_eq_true c2] at q
        exact q
      · rw [goodI_false (by omega)] at q
        exact q
    · walk_at "rd"
      rw [goodI_false (by omega)] at q
      exact q
def sp_octets_of : Sp := fun vs H Q _ => ∃ z : Str, vs = [.str z] ∧ z.length ≤ 100000 ∧ ∀ (H' : Hp) (l : Addr), Same H H' → H l = none → H' l = some (.lst ((ocs z).map V.int)) → Q (.ref l) H'
theorem ok_octets_of (T : Txt K mg) : FnOk P w K mg base CX0 1 T.a_octets_of T.fd_octets_of ["text"] sp_octets_of := by
  refine T.F_octets_of.ok sc_octets_of (fun vs H Q E h => ?_) (fun cdv A outer s H vs Q E hr h => ?_)
  · obtain ⟨z, rfl, _⟩ := h
    rfl
  · refine ⟨_, (pss_one (ps_ret (pe_lc (own := [("sign", 1)]) (g := gName 1) (tt := tYes) rfl sc_octets_of.nd (pi_str (pv 0)) (blkOk_by (own := [("sign", 1)]) (N := n_octets_of) (sc := defScope s_octets_of) (by decide +kernel)) (fun _ _ _ _ _ => pg_name (i := 1) sc_octets_of.nd rfl (Or.inl rfl)) (fun _ _ _ _ _ => pts_nil) (fun _ _ _ _ _ => (pe_callB (call_ord) (by rfl) T.n_ord (by decide +kernel) (pa_cons (pv 1) pa_nil)))))), ?_⟩
    try dsimp only [cxOf, Cx.nox, Cx.wish]
    obtain ⟨z, rfl, hl, q⟩ := h
    walk_at "rd"
    refine r_lcS (fun c => .int (c : Int)) hl rfl ?_ ?_
    · intro i c H' hc s R hR
      walk_at "rd"
      refine ⟨_, rfl, rfl, ?_⟩
      exact hR _ (L2.Same.refl _)
    · intro H' l s nl hl
      walk_at "rd"
      refine q H' l s nl ?_
      rw [hl, ocs, List.map_map]
      rfl

/-! ### number_octets, number_of -/
def sp_number_octets : Sp := fun vs H Q _ => ∃ n c : Int, vs = [.int n, .int c] ∧ 0 ≤ c ∧ c ≤ 1000 ∧ ∀ (H' : Hp) (l : Addr), Same H H' → H l = none → H' l = some (.lst ((octN n c.toNat).map V.int)) → Q (.ref l) H'
theorem ok_number_octets (T : Txt K mg) : FnOk P w K mg base CX0 1 T.a_number_octets T.fd_number_octets ["number", "count"] sp_number_octets := by
  refine T.F_number_octets.ok sc_number_octets (fun vs H Q E h => ?_) (fun cdv A outer s H vs Q E hr h => ?_)
  · obtain ⟨n, c, rfl, _⟩ := h
    rfl
  · refine ⟨_, (pss_one (ps_ret (pe_lc (own := [("place", 2)]) (g := gName 2) (tt := tYes) rfl sc_number_octets.nd (pi_range1 rfl T.n_range (pa_cons (pv 1) pa_nil)) (blkOk_by (own := [("place", 2)]) (N := n_number_octets) (sc := defScope s_number_octets) (by decide +kernel)) (fun _ _ _ _ _ => pg_name (i := 2) sc_number_octets.nd rfl (Or.inl rfl)) (fun _ _ _ _ _ => pts_nil) (fun _ _ _ _ _ => (pe_op op_andM (pe_op op_shr (pv 0) (pe_op op_mul pe_int (pv 2))) pe_int))))), ?_⟩
    try dsimp only [cxOf, Cx.nox, Cx.wish]
    obtain ⟨n, c, rfl, c0, c1, q⟩ := h
    walk_at "rd"
    refine r_lcI (fun i z => z = n / 2 ^ (8 * i) % 2 ^ 8) (by omega) rfl ?_ ?_
    · intro i H' hi s R hR
      walk_at "rd"
      refine ⟨_, 8, rfl, by decide, ?_⟩
      refine hR _ ?_
      rw [show (8 * ((0 : Int) + (i : Int))).toNat = 8 * i from by omega]
    · intro H' l zs s nl hl el hz
      refine q H' l s nl ?_
      rw [hl, ext_at el (octN_len c.toNat n) fun i x hi hx => by rw [octN_at _ _ _ hi, hz i x hx]]
def kIv (K : PySem.W.Frag) (R : It → Hp → Prop) : List V → Hp → Prop := fun vs H1 => ∃ (a : Addr) (xs : List V), vs = [.ref a] ∧ SqL K H1 a xs ∧ R (Itv K a xs.length) H1
theorem r_irev {K : PySem.W.Frag} {ta : TA} {σ : L2.St} {H : Hp} {R : It → Hp → Prop} (h : ta σ H (kIv K R)) : iRev K ta σ H R := h
theorem r_kIv {K : PySem.W.Frag} {a : Addr} {xs : List V} {H : Hp} {R : It → Hp → Prop} (h1 : SqL K H a xs) (h : R (Itv K a xs.length) H) : kIv K R [.ref a] H := ⟨a, xs, rfl, h1, h⟩
theorem r_forV {K : PySem.W.Frag} {a : Addr} {xs : List V} {g : TG} {tb : TS} {D : Ends} {σ : L2.St} {H : Hp} (Pv : Nat → L2.St → Hp → Prop) (h0 : Pv 0 σ H) (hG : ∀ i σ H, i ≤ xs.length → Pv i σ H → SqL K H a xs)
    (hs : ∀ i x σ H, i < xs.length → xs[xs.length - 1 - i]? = some x → Pv i σ H → g x σ H fun σ2 H2 => tb { D with nx := Pv (i + 1), ct := Pv (i + 1), bk := D.nx } σ2 H2) (hd : ∀ σ H, Pv xs.length σ H → D.nx σ H) : kFor g tb D σ (Itv K a xs.length) H :=
  for_it walk_rev Pv h0 hG (fun i x σ H H' hi p ⟨e, hx⟩ => by subst e; exact hs i x σ _ hi hx p) hd
theorem val_drop {ns : List Int} {i : Nat} {z : Int} (h : ns[i]? = some z) : val (ns.drop i) = val (ns.drop (i + 1)) * 256 + z := by
  have hi := (List.getElem?_eq_some_iff.mp h)
  obtain ⟨hi, e⟩ := hi
  rw [List.drop_eq_getElem_cons hi, e, val]
def sp_number_of (K : PySem.W.Frag) : Sp := fun vs H Q _ => ∃ (a : Addr) (ns : List Int), vs = [.ref a] ∧ SqL K H a (ns.map V.int) ∧ Q (.int (val ns)) H
theorem ok_number_of (T : Txt K mg) : FnOk P w K mg base CX0 1 T.a_number_of T.fd_number_of ["octets"] (sp_number_of K) := by
  refine T.F_number_of.ok sc_number_of (fun vs H Q E h => ?_) (fun cdv A outer s H vs Q E hr h => ?_)
  · obtain ⟨a, ns, rfl, _⟩ := h
    rfl
  · refine ⟨_, (pss_cons (ps_set (i := 1) sc_number_of.nd rfl (Or.inl rfl) pe_int)
       (pss_cons (ps_for PassesOwn.never rfl (pi_reversed (by rfl) T.n_reversed (pa_cons (pv 0) pa_nil)) (pg_name (i := 2) sc_number_of.nd rfl (Or.inl rfl))
       (pss_one (ps_set (i := 1) sc_number_of.nd rfl (Or.inl rfl) (pe_op op_add (pe_op op_mul (pv 1) pe_int) (pv 2)))))
       (pss_one (ps_ret (pv 1))))), ?_⟩
    try dsimp only [cxOf, Cx.nox, Cx.wish]
    obtain ⟨a, ns, rfl, hS, q⟩ := h
    walk_at "rd"
    refine r_irev ?_
    walk_at "rd"
    refine r_kIv hS ?_
    refine r_forV (fun i σ' H' => ∃ v2 : Option V, σ' = [some (.ref a), some (.int (val (ns.drop (ns.length - i)))), v2] ∧ H = H') ⟨none, by rw [Nat.sub_zero, List.drop_length]; rfl, rfl⟩ (fun _ _ _ _ ⟨_, _, e⟩ => e ▸ hS) ?_ ?_
    · rintro i x σ' H' hi hx ⟨v2, rfl, rfl⟩
      rw [List.length_map] at hi hx
      rw [List.getElem?_map] at hx
      obtain ⟨z, hz, rfl⟩ := Option.map_eq_some_iff.mp hx
      have e := val_drop hz
      rw [show ns.length - 1 - i + 1 = ns.length - i from by omega, show ns.length - 1 - i = ns.length - (i + 1) from by omega] at e
      walk_at "rd"
      rw [← e]
      exact ⟨_, rfl, rfl⟩
    · rintro σ' H' ⟨v2, rfl, rfl⟩
      rw [List.length_map, Nat.sub_self, List.drop_zero]
      walk_at "rd"
      exact q

def sp_is_text : Sp := fun vs H Q _ => ∃ z : Str, vs = [.str z] ∧ z.length ≤ 100000 ∧ ∀ H', Same H H' → Q (.bl (z.cps.toList.all goodN)) H'
theorem ok_is_text (T : Txt K mg) : FnOk P w K mg base CX0 2 T.a_is_text T.fd_is_text ["text"] sp_is_text := by
  refine T.F_is_text.ok sc_is_text (fun vs H Q E h => ?_) (fun cdv A outer s H vs Q E hr h => ?_)
  · obtain ⟨z, rfl, _⟩ := h
    rfl
  · refine ⟨_, (pss_one (ps_ret (pe_callB (cr_all rfl) (by rfl) T.n_all (by decide +kernel) (pa_cons (pe_lc (own := [("sign", 1)]) (g := gName 1) (tt := tYes) rfl sc_is_text.nd (pi_str (pv 0)) (blkOk_by (own := [("sign", 1)]) (N := n_is_text) (sc := defScope s_is_text) (by decide +kernel)) (fun _ _ _ _ _ => pg_name (i := 1) sc_is_text.nd rfl (Or.inl rfl)) (fun _ _ _ _ _ => pts_nil) (fun _ _ _ _ _ => (pe_call (ok_is_code T) (hr.mono (by decide)) rfl T.m_is_code T.F_is_code.kp T.b_is_code .nil pass0 (pa_cons (pe_callB (call_ord) (by rfl) T.n_ord (by decide +kernel) (pa_cons (pv 1) pa_nil)) pa_nil)))) pa_nil)))), ?_⟩
    try dsimp only [cxOf, Cx.nox, Cx.wish]
    obtain ⟨z, rfl, hl, q⟩ := h
    walk_at "rd"
    refine r_lcS (fun c => .bl (goodN c)) hl rfl ?_ ?_
    · intro i c H' hc s R hR
      walk_at "rd"
      refine ⟨_, rfl, rfl, ?_⟩
      walk_at "rd"
      refine ⟨(c : Int), rfl, ?_⟩
      rw [goodI_nat]
      exact hR _ (L2.Same.refl _)
    · intro H' l s nl hl
      walk_at "rd"
      refine ⟨l, z.cps.toList.map goodN, rfl, ?_, ?_⟩
      · rw [List.map_map]
        exact .of hl
      · rw [List.all_map]
        exact q H' s

theorem signs_at : ∀ n, n < 95 → n ≠ 5 → (Str.ofString " !\"#$ &'()*+,-./0123456789:;<=>?@ABCDEFGHIJKLMNOPQRSTUVWXYZ[\\]^_`abcdefghijklmnopqrstuvwxyz{|}~").cps.toList[n]? = some (n + 32) := by decide +kernel
def sp_text_of (K : PySem.W.Frag) : Sp := fun vs H Q _ => ∃ (a : Addr) (ns : List Int), vs = [.ref a] ∧ SqI K H a ns ∧ ns.length ≤ 100000 ∧
  (ns.all goodI = true → ∀ H', Same H H' → Q (.str (SX.S (ns.map Int.toNat))) H') ∧ (ns.all goodI = false → ∀ H', Same H H' → Q .non H')
theorem ok_text_of (T : Txt K mg) : FnOk P w K mg base CX0 2 T.a_text_of T.fd_text_of ["octets"] (sp_text_of K) := by
  refine T.F_text_of.ok sc_text_of (fun vs H Q E h => ?_) (fun cdv A outer s H vs Q E hr h => ?_)
  · obtain ⟨a, ns, rfl, _⟩ := h
    rfl
  · refine ⟨_, (pss_cons (ps_if (pt_not (pt_val (pe_callB (cr_all rfl) (by rfl) T.n_all (by decide +kernel) (pa_cons (pe_lc (own := [("octet", 1)]) (g := gName 1) (tt := tYes) rfl sc_text_of.nd (pi_seq (pi_list (pv 0)) (pi_tup (pv 0))) (blkOk_by (own := [("octet", 1)]) (N := n_text_of) (sc := defScope s_text_of) (by decide +kernel)) (fun _ _ _ _ _ => pg_name (i := 1) sc_text_of.nd rfl (Or.inl rfl)) (fun _ _ _ _ _ => pts_nil) (fun _ _ _ _ _ => (pe_call (ok_is_code T) (hr.mono (by decide)) rfl T.m_is_code T.F_is_code.kp T.b_is_code .nil pass0 (pa_cons (pv 1) pa_nil)))) pa_nil))))
       (pss_one (ps_ret pe_non))
       pss_nil)
       (pss_one (ps_ret (pe_join pe_str (pe_lc (own := [("octet", 1)]) (g := gName 1) (tt := tYes) rfl sc_text_of.nd (pi_seq (pi_list (pv 0)) (pi_tup (pv 0))) (blkOk_by (own := [("octet", 1)]) (N := n_text_of) (sc := defScope s_text_of) (by decide +kernel)) (fun _ _ _ _ _ => pg_name (i := 1) sc_text_of.nd rfl (Or.inl rfl)) (fun _ _ _ _ _ => pts_nil) (fun _ _ _ _ _ => (pe_ix ix_str (pe_glob rfl T.c_SIGNS T.r_SIGNS) (pe_op op_sub (pv 1) (pe_glob rfl T.c_FIRST_CODE T.r_FIRST_CODE)) (fun _ _ => rfl)))))))), ?_⟩
    try dsimp only [cxOf, Cx.nox, Cx.wish]
    obtain ⟨a, ns, rfl, hS, hl, q1, q2⟩ := h
    walk_at "rd"
    refine r_lcSeq (fun c => .bl (goodI c)) rfl hS hl rfl ?_ ?_
    · intro i c H' hc s R hR
      walk_at "rd"
      exact ⟨c, rfl, hR _ (L2.Same.refl _)⟩
    intro H1 l1 s1 nl1 hl1
    walk_at "rd"
    refine ⟨l1, ns.map goodI, rfl, ?_, ?_⟩
    · rw [List.map_map]
      exact .of hl1
    have ea : (ns.map goodI).all id = ns.all goodI := by rw [List.all_map]; rfl
    rw [ea]
    walk_at "rd"
    cases hg : ns.all goodI with
    | false =>
      walk_at "rd"
      exact q2 hg _ s1
    | true =>
      walk_at "rd"
      refine ⟨⟨_, rfl⟩, ?_⟩
      walk_at "rd"
      refine r_lcSeq (fun c => .str (SX.S [c.toNat])) rfl (hS.mono s1) hl rfl ?_ ?_
      · intro i c H' hc s R hR
        have gc := goodI_iff.mp (List.all_eq_true.mp hg c (List.mem_of_getElem? hc))
        walk_at "rd"
        have e : (Str.ofString " !\"#$ &'()*+,-./0123456789:;<=>?@ABCDEFGHIJKLMNOPQRSTUVWXYZ[\\]^_`abcdefghijklmnopqrstuvwxyz{|}~").cps.toList[(c - 32).toNat]? = some c.toNat := by
          have := signs_at (c - 32).toNat (by omega) (by omega)
          rw [show c.toNat = (c - 32).toNat + 32 from by omega]
          exact this
        have e2 : c - 32 = (((c - 32).toNat : Nat) : Int) := by omega
        refine r_ixs (c := c.toNat) (by decide +kernel) ?_ (hR _ (L2.Same.refl _))
        rw [e2]
        exact atI_nat e
      · intro H2 l2 s2 nl2 hl2
        refine ⟨SX.S [], l2, (ns.map Int.toNat).map (fun c => SX.S [c]), rfl, rfl, .inl ?_, ?_, ?_⟩
        · rw [List.map_map, List.map_map]
          exact .of hl2
        · rw [sum_ones, List.length_map, List.length_map]
          show ns.length + ns.length * 0 ≤ _
          omega
        · have ej : (ns.map Int.toNat).map (fun c => SX.S [c]) = ((ns.map Int.toNat).map (fun c => [c])).map SX.S := by
            simp only [List.map_map]
            rfl
          rw [ej, SX.join_S, joinL_one]
          exact q1 hg _ (s1.trans s2)

def sp_char : Sp := fun vs H Q _ => ∃ i : Int, vs = [.int i] ∧ ∀ c : Nat, goodN c = true → Q (.str (SX.S [c])) H
theorem chars_at : ∀ n, n < 94 → ∃ c, (Str.ofString " !\"#$&'()*+,-./0123456789:;<=>?@ABCDEFGHIJKLMNOPQRSTUVWXYZ[\\]^_`" ++ Str.ofString "abcdefghijklmnopqrstuvwxyz{|}~").cps.toList[n]? = some c ∧ goodN c = true := by
  have h : ∀ n, n < 94 → ((Str.ofString " !\"#$&'()*+,-./0123456789:;<=>?@ABCDEFGHIJKLMNOPQRSTUVWXYZ[\\]^_`" ++ Str.ofString "abcdefghijklmnopqrstuvwxyz{|}~").cps.toList[n]?.any goodN) = true := by decide +kernel
  intro n hn
  have := h n hn
  cases e : (Str.ofString " !\"#$&'()*+,-./0123456789:;<=>?@ABCDEFGHIJKLMNOPQRSTUVWXYZ[\\]^_`" ++ Str.ofString "abcdefghijklmnopqrstuvwxyz{|}~").cps.toList[n]? with
  | none => rw [e] at this; cases this
  | some c => rw [e] at this; exact ⟨c, rfl, this⟩
theorem ok_law_char (T : Txt K mg) : FnOk P w K mg base CX0 1 T.a_law_char T.fd_law_char ["number"] sp_char := by
  refine T.F_law_char.ok sc_law_char (fun vs H Q E h => ?_) (fun cdv A outer s H vs Q E hr h => ?_)
  · obtain ⟨i, rfl, _⟩ := h
    rfl
  · refine ⟨_, (pss_cons (ps_set (i := 1) sc_law_char.nd rfl (Or.inl rfl) pe_str)
       (pss_cons (ps_set (i := 1) sc_law_char.nd rfl (Or.inl rfl) (pe_op op_addT (pv 1) pe_str))
       (pss_one (ps_ret (pe_ix ix_str (pv 1) (pe_op op_mod (pe_callTy c_int (by rfl) T.n_int (by decide +kernel) (pa_cons (pv 0) pa_nil)) pe_int) (fun _ _ => rfl)))))), ?_⟩
    try dsimp only [cxOf, Cx.nox, Cx.wish]
    obtain ⟨i, rfl, q⟩ := h
    walk_at "rd"
    refine ⟨_, _, rfl, rfl, by decide +kernel, ?_⟩
    walk_at "rd"
    rename_i y hy y0 y1
    obtain ⟨c, ec, hc⟩ := chars_at y.toNat (by omega)
    refine r_ixs (c := c) (by decide +kernel) ?_ (q c hc)
    rw [show y = ((y.toNat : Nat) : Int) from by omega]
    exact atI_nat ec
def sp_ltext : Sp := fun vs H Q _ => ∃ n k : Int, vs = [.int n, .int k] ∧ 0 ≤ k ∧ k ≤ 1000 ∧ ∀ z : Str, z.length = k.toNat → z.cps.toList.all goodN = true → Q (.str z) H
theorem ok_law_text (T : Txt K mg) : FnOk P w K mg base CX0 2 T.a_law_text T.fd_law_text ["number", "count"] sp_ltext := by
  refine T.F_law_text.ok sc_law_text (fun vs H Q E h => ?_) (fun cdv A outer s H vs Q E hr h => ?_)
  · obtain ⟨n, k, rfl, _⟩ := h
    rfl
  · refine ⟨_, (pss_cons (ps_set (i := 2) sc_law_text.nd rfl (Or.inl rfl) pe_str)
       (pss_cons (ps_set (i := 0) sc_law_text.nd rfl (Or.inl rfl) (pe_callTy c_int (by rfl) T.n_int (by decide +kernel) (pa_cons (pv 0) pa_nil)))
       (pss_cons (ps_for PassesOwn.never rfl (pi_range1 rfl T.n_range (pa_cons (pv 1) pa_nil)) (pg_name (i := 3) sc_law_text.nd rfl (Or.inl rfl))
       (pss_cons (ps_set (i := 2) sc_law_text.nd rfl (Or.inl rfl) (pe_op op_addT (pv 2) (pe_call (ok_law_char T) (hr.mono (by decide)) rfl T.m_law_char T.F_law_char.kp T.b_law_char .nil pass0 (pa_cons (pe_op op_fdiv (pv 0) pe_int) pa_nil))))
       (pss_one (ps_if (pt_cmpR op_lt (pe_op op_mod (pv 3) pe_int) pe_int (nomark _))
       (pss_one (ps_set (i := 0) sc_law_text.nd rfl (Or.inl rfl) (pe_op op_fdiv (pv 0) pe_int)))
       (pss_one (ps_set (i := 0) sc_law_text.nd rfl (Or.inl rfl) (pe_op op_add (pe_op op_mul (pv 0) pe_int) (pv 3))))))))
       (pss_one (ps_ret (pv 2)))))), ?_⟩
    try dsimp only [cxOf, Cx.nox, Cx.wish]
    obtain ⟨n, k, rfl, k0, k1, q⟩ := h
    walk_at "rd"
    refine r_forR (fun i σ' H' => ∃ (n : Int) (z : Str) (v3 : Option V), σ' = [some (.int n), some (.int k), some (.str z), v3] ∧ H = H' ∧ z.length = i ∧ z.cps.toList.all goodN = true) ⟨n, _, _, rfl, rfl, by decide +kernel, by decide +kernel⟩ ?_ ?_
    · rintro i σ' H' hi ⟨n, z, v3, rfl, rfl, hz, hg⟩
      walk_at "rd"
      refine ⟨_, rfl, fun c hc => ?_⟩
      refine ⟨_, _, rfl, rfl, ?_, ?_⟩
      · rw [SX.S_len [c], hz, sz]
        simp
        omega
      have hz2 : (z ++ SX.S [c]).length = i + 1 := by
        rw [app_len, SX.S_len [c], hz]
        rfl
      have hg2 : (z ++ SX.S [c]).cps.toList.all goodN = true := by
        rw [app_tl, List.all_append, hg]
        simp [hc]
      generalize z ++ SX.S [c] = z2 at hz2 hg2
      walk_at "rd"
      refine r_ite (fun _ => ?_) (fun _ => ?_)
      · walk_at "rd"
        exact ⟨_, z2, _, rfl, rfl, hz2, hg2⟩
      · walk_at "rd"
        exact ⟨_, z2, _, rfl, rfl, hz2, hg2⟩
    · rintro σ' H' ⟨n, z, v3, rfl, rfl, hz, hg⟩
      walk_at "rd"
      exact q z hz hg

theorem i_is_code  {args_ : List V} {H : Hp} {Q : V → Hp → Prop} {E : XK} {i : Int} (ev : args_ = [.int i]) (q : Q (.bl (goodI i)) H) : sp_is_code  args_ H Q E := ⟨i, ev, q⟩
local macro_rules | `(tactic| walk_at "ca1") => `(tactic| with_reducible (refine' Sg.i_is_code ?ev ?_; (case ev => (with_unfolding_all rfl))))

theorem i_octets_of  {args_ : List V} {H : Hp} {Q : V → Hp → Prop} {E : XK} {z : Str} (ev : args_ = [.str z]) (hl : z.length ≤ 100000) (q : ∀ (H' : Hp) (l : Addr), Same H H' → H l = none → H' l = some (.lst ((ocs z).map V.int)) → Q (.ref l) H') : sp_octets_of  args_ H Q E := ⟨z, ev, hl, q⟩
local macro_rules | `(tactic| walk_at "ca1") => `(tactic| with_reducible (refine' Sg.i_octets_of ?ev ?hl ?_; (case ev => (with_unfolding_all rfl)); (case hl => (with_unfolding_all walk_at "pr")); intros))

theorem i_number_octets  {args_ : List V} {H : Hp} {Q : V → Hp → Prop} {E : XK} {n c : Int} (ev : args_ = [.int n, .int c]) (c0 : 0 ≤ c) (c1 : c ≤ 1000) (q : ∀ (H' : Hp) (l : Addr), Same H H' → H l = none → H' l = some (.lst ((octN n c.toNat).map V.int)) → Q (.ref l) H') : sp_number_octets  args_ H Q E := ⟨n, c, ev, c0, c1, q⟩
local macro_rules | `(tactic| walk_at "ca1") => `(tactic| with_reducible (refine' Sg.i_number_octets ?ev ?c0 ?c1 ?_; (case ev => (with_unfolding_all rfl)); (case c0 => (with_unfolding_all walk_at "pr")); (case c1 => (with_unfolding_all walk_at "pr")); intros))

theorem i_number_of {K : PySem.W.Frag} {args_ : List V} {H : Hp} {Q : V → Hp → Prop} {E : XK} {a : Addr} {ns : List Int} (ev : args_ = [.ref a]) (hS : SqL K H a (ns.map V.int)) (q : Q (.int (val ns)) H) : sp_number_of K args_ H Q E := ⟨a, ns, ev, hS, q⟩
local macro_rules | `(tactic| walk_at "ca1") => `(tactic| with_reducible (refine' Sg.i_number_of ?ev ?hS ?_; (case ev => (with_unfolding_all rfl)); (case hS => (with_unfolding_all walk_at "pr"))))

theorem i_is_text  {args_ : List V} {H : Hp} {Q : V → Hp → Prop} {E : XK} {z : Str} (ev : args_ = [.str z]) (hl : z.length ≤ 100000) (q : ∀ H', Same H H' → Q (.bl (z.cps.toList.all goodN)) H') : sp_is_text  args_ H Q E := ⟨z, ev, hl, q⟩
local macro_rules | `(tactic| walk_at "ca1") => `(tactic| with_reducible (refine' Sg.i_is_text ?ev ?hl ?_; (case ev => (with_unfolding_all rfl)); (case hl => (with_unfolding_all walk_at "pr")); intros))

theorem i_text_of {K : PySem.W.Frag} {args_ : List V} {H : Hp} {Q : V → Hp → Prop} {E : XK} {a : Addr} {ns : List Int} (ev : args_ = [.ref a]) (hS : SqI K H a ns) (hl : ns.length ≤ 100000) (q1 : (ns.all goodI = true → ∀ H', Same H H' → Q (.str (SX.S (ns.map Int.toNat))) H')) (q2 : (ns.all goodI = false → ∀ H', Same H H' → Q .non H')) : sp_text_of K args_ H Q E := ⟨a, ns, ev, hS, hl, q1, q2⟩
local macro_rules | `(tactic| walk_at "ca1") => `(tactic| with_reducible (refine' Sg.i_text_of ?ev ?hS ?hl ?q1 ?q2; (case ev => (with_unfolding_all rfl)); (case hS => (with_unfolding_all walk_at "pr")); (case hl => (with_unfolding_all walk_at "pr"))))

theorem i_char  {args_ : List V} {H : Hp} {Q : V → Hp → Prop} {E : XK} {i : Int} (ev : args_ = [.int i]) (q : ∀ c : Nat, goodN c = true → Q (.str (SX.S [c])) H) : sp_char  args_ H Q E := ⟨i, ev, q⟩
local macro_rules | `(tactic| walk_at "ca1") => `(tactic| with_reducible (refine' Sg.i_char ?ev ?_; (case ev => (with_unfolding_all rfl)); intros))

theorem i_ltext  {args_ : List V} {H : Hp} {Q : V → Hp → Prop} {E : XK} {n k : Int} (ev : args_ = [.int n, .int k]) (k0 : 0 ≤ k) (k1 : k ≤ 1000) (q : ∀ z : Str, z.length = k.toNat → z.cps.toList.all goodN = true → Q (.str z) H) : sp_ltext  args_ H Q E := ⟨n, k, ev, k0, k1, q⟩
local macro_rules | `(tactic| walk_at "ca1") => `(tactic| with_reducible (refine' Sg.i_ltext ?ev ?k0 ?k1 ?_; (case ev => (with_unfolding_all rfl)); (case k0 => (with_unfolding_all walk_at "pr")); (case k1 => (with_unfolding_all walk_at "pr")); intros))

theorem i_row {K : PySem.W.Frag} {args_ : List V} {H : Hp} {Q : V → Hp → Prop} {E : XK} {a : Addr} {ns : List Int} {k : Int} (ev : args_ = [.ref a, .int k]) (hS : SqL K H a (ns.map V.int)) (h63 : ns.length ≤ 63) (k0 : 0 ≤ k) (k1 : k ≤ 1000) (q : ∀ z : Int, 0 ≤ z → Q (.int z) H) : sp_row K args_ H Q E := ⟨a, ns, k, ev, hS, h63, k0, k1, q⟩
local macro_rules | `(tactic| walk_at "ca1") => `(tactic| with_reducible (refine' Sg.i_row ?ev ?hS ?h63 ?k0 ?k1 ?_; (case ev => (with_unfolding_all rfl)); (case hS => (with_unfolding_all walk_at "pr")); (case h63 => (with_unfolding_all walk_at "pr")); (case k0 => (with_unfolding_all walk_at "pr")); (case k1 => (with_unfolding_all walk_at "pr")); intros))


/-! ### entries: the mathematics -/
def filI (ns : List Int) (c : Nat) : List Int := (ns ++ List.replicate c 0).take c
theorem filI_len (ns : List Int) (c : Nat) : (filI ns c).length = c := by
  unfold filI
  rw [List.length_take, List.length_append, List.length_replicate]
  omega
theorem filI_at {ns : List Int} {c i : Nat} (h : i < c) : (filI ns c).getD i 0 = ns.getD i 0 := by
  unfold filI
  rw [List.getD_eq_getElem?_getD, List.getD_eq_getElem?_getD, List.getElem?_take_of_lt h]
  by_cases hi : i < ns.length
  · rw [List.getElem?_append_left hi]
  · rw [List.getElem?_append_right (by omega), List.getElem?_eq_none (l := ns) (by omega), List.getElem?_replicate]
    split <;> rfl
theorem ext_getD {l l' : List Int} {n : Nat} (h : l.length = n) (h' : l'.length = n) (e : ∀ i, i < n → l.getD i 0 = l'.getD i 0) : l = l' := by
  refine List.ext_getElem (by omega) fun i h1 h2 => ?_
  have := e i (by omega)
  rw [List.getD_eq_getElem?_getD, List.getD_eq_getElem?_getD, List.getElem?_eq_getElem h1, List.getElem?_eq_getElem h2] at this
  exact this
def isNm (z : Str) : Bool := decide (1 ≤ (z.length : Int)) && (decide ((z.length : Int) ≤ 28) && (z.cps.toList.all goodN && (!decide (47 ∈ z.cps.toList) && !inV (.str z) [.str ".", .str ".."])))
def encE (z : Str) (n : Int) : List Int := filI (octN n 2 ++ [(z.length : Int)] ++ ocs z) 32
def partE (ns : List Int) : List Int := (ns.drop 3).take ((3 + ns.getD 2 0).toNat - 3)
def decE (ns : List Int) : Option (Str × Int) :=
  if val (ns.take 2) = 0 ∨ (partE ns).all goodI = false ∨ isNm (SX.S ((partE ns).map Int.toNat)) = false ∨ ns ≠ encE (SX.S ((partE ns).map Int.toNat)) (val (ns.take 2)) then none
  else some (SX.S ((partE ns).map Int.toNat), val (ns.take 2))
theorem ocs_len (z : Str) : (ocs z).length = z.length := by
  unfold ocs
  rw [List.length_map, len_tl]
theorem encE_len (z : Str) (n : Int) : (encE z n).length = 32 := filI_len _ _
theorem encE_0 (z : Str) (n : Int) : (encE z n).getD 0 0 = n % 256 := by
  unfold encE
  rw [filI_at (by decide)]
  rfl
theorem encE_1 (z : Str) (n : Int) : (encE z n).getD 1 0 = n / 256 % 256 := by
  unfold encE
  rw [filI_at (by decide)]
  rfl
theorem encE_2 (z : Str) (n : Int) : (encE z n).getD 2 0 = z.length := by
  unfold encE
  rw [filI_at (by decide)]
  rfl
theorem encE_k (z : Str) (n : Int) {k : Nat} (h : k < 29) : (encE z n).getD (3 + k) 0 = (ocs z).getD k 0 := by
  unfold encE
  rw [filI_at (by omega), List.getD_eq_getElem?_getD, List.getD_eq_getElem?_getD, List.getElem?_append_right (by rw [List.length_append, octN_len]; simp)]
  rw [List.length_append, octN_len, show 3 + k - (2 + [(z.length : Int)].length) = k by simp]
theorem val2_of {ns : List Int} (h : ns.length = 32) : val (ns.take 2) = ns.getD 1 0 * 256 + ns.getD 0 0 := by
  match ns, h with
  | a :: b :: r, _ =>
    show (0 * 256 + b) * 256 + a = b * 256 + a
    omega
theorem partE_len {ns : List Int} (h : ns.length = 32) (h0 : 0 ≤ ns.getD 2 0) : (partE ns).length = min (ns.getD 2 0).toNat 29 := by
  unfold partE
  rw [List.length_take, List.length_drop, h]
  omega
theorem partE_at {ns : List Int} (h : ns.length = 32) (h0 : 0 ≤ ns.getD 2 0) {k : Nat} (hk : k < 29) (hl : (k : Int) < ns.getD 2 0) : (partE ns).getD k 0 = ns.getD (3 + k) 0 := by
  unfold partE
  generalize ns.getD 2 0 = L at h0 hl ⊢
  rw [List.getD_eq_getElem?_getD, List.getD_eq_getElem?_getD, List.getElem?_take_of_lt (by omega), List.getElem?_drop]
theorem byte_at {ns : List Int} (hb : ∀ x ∈ ns, 0 ≤ x ∧ x < 256) (i : Nat) : 0 ≤ ns.getD i 0 ∧ ns.getD i 0 < 256 := by
  rw [List.getD_eq_getElem?_getD]
  cases e : ns[i]? with
  | none => exact ⟨Int.le_refl 0, by decide⟩
  | some x => exact hb x (List.mem_of_getElem? e)
theorem partE_byte {ns : List Int} (hb : ∀ x ∈ ns, 0 ≤ x ∧ x < 256) : ∀ x ∈ partE ns, 0 ≤ x := fun x hx => (hb x (List.mem_of_mem_drop (List.mem_of_mem_take hx))).1
theorem partE_ocs {ns : List Int} (hb : ∀ x ∈ ns, 0 ≤ x ∧ x < 256) : ocs (SX.S ((partE ns).map Int.toNat)) = partE ns := ocs_S (partE_byte hb)
theorem partS_len {ns : List Int} (hb : ∀ x ∈ ns, 0 ≤ x ∧ x < 256) : (SX.S ((partE ns).map Int.toNat)).length = (partE ns).length := by rw [← ocs_len, partE_ocs hb]
/-- the octets are those of an entry, by their places -/
theorem encE_iff {ns : List Int} (h : ns.length = 32) (hb : ∀ x ∈ ns, 0 ≤ x ∧ x < 256) : ns = encE (SX.S ((partE ns).map Int.toNat)) (val (ns.take 2)) ↔ ns.getD 2 0 ≤ 29 ∧ ∀ k : Nat, k < 29 → ns.getD 2 0 ≤ (k : Int) → ns.getD (3 + k) 0 = 0 := by
  have h0 := byte_at hb 0
  have h1 := byte_at hb 1
  have h2 := byte_at hb 2
  have pl := partE_len h h2.1
  constructor
  · intro e
    have e2 := congrArg (fun l : List Int => l.getD 2 0) e
    simp only [encE_2, partS_len hb] at e2
    refine ⟨by omega, fun k hk hl => ?_⟩
    have ek := congrArg (fun l : List Int => l.getD (3 + k) 0) e
    simp only [encE_k _ _ hk, partE_ocs hb] at ek
    rw [ek, List.getD_eq_getElem?_getD, List.getElem?_eq_none (by omega)]
    rfl
  · rintro ⟨e1, e2⟩
    refine ext_getD h (encE_len _ _) fun i hi => ?_
    have v2 := val2_of h
    match i, hi with
    | 0, _ => rw [encE_0, v2]; omega
    | 1, _ => rw [encE_1, v2]; omega
    | 2, _ => rw [encE_2, partS_len hb, pl]; omega
    | k + 3, hk =>
      rw [show k + 3 = 3 + k by omega, encE_k _ _ (by omega), partE_ocs hb]
      by_cases c : (k : Int) < ns.getD 2 0
      · rw [partE_at h h2.1 (by omega) c]
      · rw [e2 k (by omega) (by omega), List.getD_eq_getElem?_getD, List.getElem?_eq_none (by omega)]
        rfl
theorem isNm_iff {z : Str} : isNm z = true ↔ 1 ≤ z.length ∧ z.length ≤ 28 ∧ z.cps.toList.all goodN = true ∧ 47 ∉ z.cps.toList ∧ z ≠ "." ∧ z ≠ ".." := by
  unfold isNm
  simp only [Bool.and_eq_true, decide_eq_true_eq, Bool.not_eq_true', decide_eq_false_iff_not]
  have : inV (.str z) [.str ".", .str ".."] = false ↔ z ≠ "." ∧ z ≠ ".." := by
    unfold inV
    simp only [List.any_cons, List.any_nil, Bool.or_false, Bool.or_eq_false_iff]
    simp only [eqV]
    constructor
    · rintro ⟨a, b⟩
      exact ⟨fun e => by rw [e] at a; simp at a, fun e => by rw [e] at b; simp at b⟩
    · rintro ⟨a, b⟩
      exact ⟨by simpa using fun e => a e.symm, by simpa using fun e => b e.symm⟩
  rw [this]
  exact ⟨fun ⟨a, b, c⟩ => ⟨by omega, by omega, c⟩, fun ⟨a, b, c⟩ => ⟨by omega, by omega, c⟩⟩
def sp_filled (K : PySem.W.Frag) : Sp := fun args_ H Q _ => ∃ (a : Addr) (ns : List Int) (c : Int), args_ = [.ref a, .int c] ∧ SqL K H a (ns.map V.int) ∧ ns.length ≤ 1000 ∧ 0 ≤ c ∧ c ≤ 1000 ∧ ∀ H' l, Same H H' → H l = none → H' l = some (.lst ((filI ns c.toNat).map V.int)) → Q (.ref l) H'
theorem i_filled {K : PySem.W.Frag} {args_ : List V} {H : Hp} {Q : V → Hp → Prop} {E : XK} {a : Addr} {ns : List Int} {c : Int} (ev : args_ = [.ref a, .int c]) (h : SqL K H a (ns.map V.int)) (hl : ns.length ≤ 1000) (c0 : 0 ≤ c) (c1 : c ≤ 1000) (q : ∀ H' l, Same H H' → H l = none → H' l = some (.lst ((filI ns c.toNat).map V.int)) → Q (.ref l) H') : sp_filled K args_ H Q E := ⟨a, ns, c, ev, h, hl, c0, c1, q⟩
local macro_rules | `(tactic| walk_at "ca1") => `(tactic| with_reducible (refine' Sg.i_filled ?ev ?h ?hl ?c0 ?c1 ?_; (case ev => (with_unfolding_all rfl)); (case h => (with_unfolding_all walk_at "pr")); (case hl => (with_unfolding_all walk_at "pr")); (case c0 => (with_unfolding_all walk_at "pr")); (case c1 => (with_unfolding_all walk_at "pr")); intros))

theorem ok_filled (T : Txt K mg) : FnOk P w K mg base CX0 1 T.a_filled T.fd_filled ["numbers", "count"] (sp_filled K) := by
  refine T.F_filled.ok sc_filled (fun vs H Q E h => ?_) (fun cdv A outer s H vs Q E hr h => ?_)
  · obtain ⟨a, ns, c, rfl, _⟩ := h
    rfl
  · refine ⟨_, (pss_one (ps_ret (pe_slice sl_list (pe_op op_cat (pe_callTy c_list (by rfl) T.n_list (by decide +kernel) (pa_cons (pv 0) pa_nil)) (pe_op op_rep (pe_lst (pa_cons pe_int pa_nil)) (pv 1))) po_none (po_some (pv 1))))), ?_⟩
    try dsimp only [cxOf, Cx.nox, Cx.wish]
    obtain ⟨a, ns, c, rfl, h, hl, c0, c1, q⟩ := h
    walk_at "go"
    rename_i l1 n1 H1 s1 g1 l2 n2 H2 s2 g2 l3 n3 H3 s3 g3 l4 n4 H4 s4 g4 l5 n5 H5 s5 g5
    refine q _ _ (by walk_at "sm") ((s1.trans (s2.trans (s3.trans s4))).free n5) ?_
    rw [g5, cut_to c0, filI, List.map_take, List.map_append, List.map_replicate]
def sp_is_name  : Sp := fun args_ H Q _ => ∃ (z : Str), args_ = [.str z] ∧ z.length ≤ 100000 ∧ ∀ H', Same H H' → Q (.bl (isNm z)) H'
theorem i_is_name  {args_ : List V} {H : Hp} {Q : V → Hp → Prop} {E : XK} {z : Str} (ev : args_ = [.str z]) (hl : z.length ≤ 100000) (q : ∀ H', Same H H' → Q (.bl (isNm z)) H') : sp_is_name  args_ H Q E := ⟨z, ev, hl, q⟩
local macro_rules | `(tactic| walk_at "ca1") => `(tactic| with_reducible (refine' Sg.i_is_name ?ev ?hl ?_; (case ev => (with_unfolding_all rfl)); (case hl => (with_unfolding_all walk_at "pr")); intros))

theorem ok_is_name (T : Txt K mg) : FnOk P w K mg base CX0 3 T.a_is_name T.fd_is_name ["text"] sp_is_name := by
  refine T.F_is_name.ok sc_is_name (fun vs H Q E h => ?_) (fun cdv A outer s H vs Q E hr h => ?_)
  · obtain ⟨z, rfl, _⟩ := h
    rfl
  · refine ⟨_, (pss_one (ps_ret (pe_and (pe_chain op_le op_le pe_int (pe_callB (c_lenS) (by rfl) T.n_len (by decide +kernel) (pa_cons (pv 0) pa_nil)) (pe_glob rfl T.c_MOST_SIGNS T.r_MOST_SIGNS)) (pe_and (pe_call (ok_is_text T) (hr.mono (by decide)) rfl T.m_is_text T.F_is_text.kp T.b_is_text .nil pass0 (pa_cons (pv 0) pa_nil)) (pe_and (pe_cmpR op_notIn_sign pe_str (pv 0) (by with_unfolding_all rfl)) (pe_one (pe_cmpR op_notIn_seq (pv 0) (pe_tup (pa_cons pe_str (pa_cons pe_str pa_nil))) (by with_unfolding_all rfl)))))))), ?_⟩
    try dsimp only [cxOf, Cx.nox, Cx.wish]
    obtain ⟨z, rfl, hl, q⟩ := h
    unfold isNm at q
    walk_at "go"
    refine r_ite (fun c1 => ?_) (fun c1 => ?_)
    case refine_2 =>
      rw [decide_eq_false c1] at q
      walk_at "go"
      exact q _ (Same.refl _)
    rw [decide_eq_true c1] at q
    walk_at "go"
    refine r_ite (fun c2 => ?_) (fun c2 => ?_)
    case refine_2 =>
      rw [decide_eq_false c2] at q
      exact q _ (Same.refl _)
    rw [decide_eq_true c2] at q
    walk_at "go"
    rename_i H1 s1
    cases ht : z.cps.toList.all goodN with
    | false =>
      rw [ht] at q
      walk_at "go"
      exact q _ s1
    | true =>
      rw [ht] at q
      walk_at "go"
      refine ⟨47, z, rfl, rfl, ?_⟩
      cases h47 : decide (47 ∈ z.cps.toList) with
      | true =>
        rw [h47] at q
        walk_at "go"
        exact q _ s1
      | false =>
        rw [h47] at q
        walk_at "go"
        rename_i p np H2 s2 hp
        exact q _ (s1.trans s2)
def sp_encode_entry (K : PySem.W.Frag) : Sp := fun args_ H Q _ => ∃ (z : Str) (n : Int), args_ = [.str z, .int n] ∧ z.length ≤ 100 ∧ ∀ H' l, Same H H' → H l = none → H' l = some (.lst ((encE z n).map V.int)) → Q (.ref l) H'
theorem i_encode_entry {K : PySem.W.Frag} {args_ : List V} {H : Hp} {Q : V → Hp → Prop} {E : XK} {z : Str} {n : Int} (ev : args_ = [.str z, .int n]) (hl : z.length ≤ 100) (q : ∀ H' l, Same H H' → H l = none → H' l = some (.lst ((encE z n).map V.int)) → Q (.ref l) H') : sp_encode_entry K args_ H Q E := ⟨z, n, ev, hl, q⟩
local macro_rules | `(tactic| walk_at "ca1") => `(tactic| with_reducible (refine' Sg.i_encode_entry ?ev ?hl ?_; (case ev => (with_unfolding_all rfl)); (case hl => (with_unfolding_all walk_at "pr")); intros))

theorem ok_encode_entry (T : Txt K mg) : FnOk P w K mg base CX0 2 T.a_encode_entry T.fd_encode_entry ["name", "number"] (sp_encode_entry K) := by
  refine T.F_encode_entry.ok sc_encode_entry (fun vs H Q E h => ?_) (fun cdv A outer s H vs Q E hr h => ?_)
  · obtain ⟨z, n, rfl, _⟩ := h
    rfl
  · refine ⟨_, (pss_one (ps_ret (pe_call (ok_filled T) (hr.mono (by decide)) rfl T.m_filled T.F_filled.kp T.b_filled .nil pass0 (pa_cons (pe_op op_cat (pe_op op_cat (pe_call (ok_number_octets T) (hr.mono (by decide)) rfl T.m_number_octets T.F_number_octets.kp T.b_number_octets .nil pass0 (pa_cons (pv 1) (pa_cons pe_int pa_nil))) (pe_lst (pa_cons (pe_callB (c_lenS) (by rfl) T.n_len (by decide +kernel) (pa_cons (pv 0) pa_nil)) pa_nil))) (pe_call (ok_octets_of T) (hr.mono (by decide)) rfl T.m_octets_of T.F_octets_of.kp T.b_octets_of .nil pass0 (pa_cons (pv 0) pa_nil))) (pa_cons (pe_glob rfl T.c_ENTRY_OCTETS T.r_ENTRY_OCTETS) pa_nil))))), ?_⟩
    try dsimp only [cxOf, Cx.nox, Cx.wish]
    obtain ⟨z, n, rfl, hl, q⟩ := h
    have ol := ocs_len z
    have ol2 := octN_len 2 n
    have ol3 : (octN n (Int.toNat 2)).length = 2 := ol2
    walk_at "go"
    rename_i H1 l1 s1 n1 g1 l2 n2 H2 s2 g2 l3 n3 H3 s3 g3 H4 l4 s4 n4 g4 l5 n5 H5 s5 g5
    rw [show (octN n (Int.toNat 2)).map V.int ++ [V.int (z.length : Int)] ++ (ocs z).map V.int = (octN n 2 ++ [(z.length : Int)] ++ ocs z).map V.int from by rw [List.map_append, List.map_append]; rfl] at g5
    have hl5 : (octN n 2 ++ [(z.length : Int)] ++ ocs z).length ≤ 1000 := by rw [List.length_append, List.length_append, ol2, ol]; simp; omega
    walk_at "go"
    rename_i H6 l6 s6 n6 g6
    exact q _ _ (by walk_at "sm") ((s1.trans (s2.trans (s3.trans (s4.trans s5)))).free n6) g6
theorem strOk_good {z : Str} (h : z.cps.toList.all goodN = true) : PyData.canLay0 (.str z) = true := by
  show z.cps.all (· < 0x110000) = true
  rw [← Array.all_toList, List.all_eq_true]
  intro c hc
  have := List.all_eq_true.mp h c hc
  unfold goodN at this
  simp only [Bool.and_eq_true, decide_eq_true_eq] at this
  exact decide_eq_true (by omega)
def sp_decode_entry (K : PySem.W.Frag) : Sp := fun args_ H Q _ => ∃ (a : Addr) (ns : List Int), args_ = [.ref a] ∧ SqL K H a (ns.map V.int) ∧ ns.length = 32 ∧ (∀ x ∈ ns, 0 ≤ x ∧ x < 256) ∧ ((∀ H' p z n, decE ns = some (z, n) → Same H H' → H' p = some (.tup [.str z, .int n]) → Q (.ref p) H')) ∧ (decE ns = none → ∀ H', Same H H' → Q .non H')
theorem i_decode_entry {K : PySem.W.Frag} {args_ : List V} {H : Hp} {Q : V → Hp → Prop} {E : XK} {a : Addr} {ns : List Int} (ev : args_ = [.ref a]) (h : SqL K H a (ns.map V.int)) (hl : ns.length = 32) (hb : (∀ x ∈ ns, 0 ≤ x ∧ x < 256)) (q1 : (∀ H' p z n, decE ns = some (z, n) → Same H H' → H' p = some (.tup [.str z, .int n]) → Q (.ref p) H')) (q2 : (decE ns = none → ∀ H', Same H H' → Q .non H')) : sp_decode_entry K args_ H Q E := ⟨a, ns, ev, h, hl, hb, q1, q2⟩
local macro_rules | `(tactic| walk_at "ca1") => `(tactic| with_reducible (refine' Sg.i_decode_entry ?ev ?h ?hl ?hb ?q1 ?q2; (case ev => (with_unfolding_all rfl)); (case h => (with_unfolding_all walk_at "pr")); (case hl => (with_unfolding_all walk_at "pr")); (case hb => (with_unfolding_all walk_at "pr"))))

theorem ok_decode_entry (T : Txt K mg) : FnOk P w K mg base CX0 4 T.a_decode_entry T.fd_decode_entry ["octets"] (sp_decode_entry K) := by
  refine T.F_decode_entry.ok sc_decode_entry (fun vs H Q E h => ?_) (fun cdv A outer s H vs Q E hr h => ?_)
  · obtain ⟨a, ns, rfl, _⟩ := h
    rfl
  · refine ⟨_, (pss_cons (ps_set (i := 1) sc_decode_entry.nd rfl (Or.inl rfl) (pe_call (ok_number_of T) (hr.mono (by decide)) rfl T.m_number_of T.F_number_of.kp T.b_number_of .nil pass0 (pa_cons (pe_slice sl_list (pv 0) po_none (po_some pe_int)) pa_nil)))
       (pss_cons (ps_set (i := 2) sc_decode_entry.nd rfl (Or.inl rfl) (pe_call (ok_text_of T) (hr.mono (by decide)) rfl T.m_text_of T.F_text_of.kp T.b_text_of .nil pass0 (pa_cons (pe_slice sl_list (pv 0) (po_some (pe_glob rfl T.c_NAME_START T.r_NAME_START)) (po_some (pe_op op_add (pe_glob rfl T.c_NAME_START T.r_NAME_START) (pe_ix ix_list (pv 0) pe_int (fun _ _ => rfl))))) pa_nil)))
       (C8.pss_cut (ps_if (PW.pt (pw_or (pt_cmpR op_eq (pv 1) pe_int (nomark _)) (pw_or (pt_cmp (pc_isN (pv 2)) rfl) (pw_or1 (pt_not (pt_val (pe_call (ok_is_name T) (hr.mono (by decide)) rfl T.m_is_name T.F_is_name.kp T.b_is_name .nil pass0 (pa_cons (pv 2) pa_nil))))))))
       (pss_one (ps_ret pe_non))
       pss_nil)
       (pss_cons (ps_if (pt_cmpR (op_neD hr.units) (pv 0) (pe_call (ok_encode_entry T) (hr.mono (by decide)) rfl T.m_encode_entry T.F_encode_entry.kp T.b_encode_entry .nil pass0 (pa_cons (pv 2) (pa_cons (pv 1) pa_nil))) (nomark _))
       (pss_one (ps_ret pe_non))
       pss_nil)
       (pss_one (ps_ret (pe_tup (pa_cons (pv 2) (pa_cons (pv 1) pa_nil))))))))), ?_⟩
    try dsimp only [cxOf, Cx.nox, Cx.wish]
    obtain ⟨a, ns, rfl, h, hl, hb, q1, q2⟩ := h
    have b2 := byte_at hb 2
    have h2 : atI (ns.map V.int) 2 = some (.int (ns.getD 2 0)) := at_ints (k := 2) (by decide) (by omega)
    walk_at "go"
    rename_i l1 n1 H1 s1 g1
    rw [cut_to (by decide), ← List.map_take] at g1
    walk_at "go"
    refine r_ixl (by walk_at "hp") h2 ?_
    walk_at "go"
    rename_i l2 n2 H2 s2 g2
    rw [cut_both (by decide) (by omega), ← List.map_drop, ← List.map_take] at g2
    have pl : (partE ns).length ≤ 100000 := by rw [partE_len hl b2.1]; omega
    have hp2 : SqI K H2 l2 (partE ns) := .inl (.of g2)
    walk_at "go"
    case q2 =>
      intro hg H3 s3
      have hn : decE ns = none := by unfold decE; rw [if_pos (.inr (.inl hg))]
      walk_at "go"
      refine r_cut (fun _ _ => False) ?_ (fun _ _ z => z.elim)
      walk_at "gs"
      all_goals exact q2 hn _ (s1.trans (s2.trans s3))
    case q1 =>
      intro hg H3 s3
      have zl : (SX.S ((partE ns).map Int.toNat)).length ≤ 29 := by rw [partS_len hb, partE_len hl b2.1]; omega
      have hd : decE ns = if val (ns.take 2) = 0 ∨ isNm (SX.S ((partE ns).map Int.toNat)) = false ∨ ns ≠ encE (SX.S ((partE ns).map Int.toNat)) (val (ns.take 2)) then none else some (SX.S ((partE ns).map Int.toNat), val (ns.take 2)) := by
        unfold decE
        simp only [hg, Bool.true_eq_false, false_or]
      walk_at "go"
      rw [show Int.toNat 2 = 2 from rfl]
      generalize SX.S ((partE ns).map Int.toNat) = z at zl hd ⊢
      generalize val (ns.take 2) = n at hd ⊢
      refine r_cut (fun σ' H' => n ≠ 0 ∧ isNm z = true ∧ σ' = [some (.ref a), some (.int n), some (.str z)] ∧ Same H3 H') ?_ ?_
      · walk_at "go"
        refine r_ite (fun c => ?_) (fun c => ?_)
        · walk_at "go"
          exact q2 (by rw [hd, if_pos (.inl c)]) _ (s1.trans (s2.trans s3))
        walk_at "go"
        rename_i H4 s4
        cases hm : isNm z with
        | false =>
          walk_at "go"
          exact q2 (by rw [hd, if_pos (.inr (.inl hm))]) _ (s1.trans (s2.trans (s3.trans s4)))
        | true =>
          walk_at "go"
          exact ⟨c, rfl, rfl, s4⟩
      rintro _ H4 ⟨c, hm, rfl, s4⟩
      have s14 := s1.trans (s2.trans (s3.trans s4))
      walk_at "go"
      rename_i H5 l5 s5 n5 g5
      have h5 := (s14.trans s5).seq h
      refine r_ned (Dp.ints h5) (Dp.ints (.of g5)) (Fl.intlS _) (Fl.intlS _) ?_
      rw [eqv_ints]
      walk_at "go"
      refine r_iteN (fun ne => ?_) (fun e => ?_)
      · walk_at "go"
        exact q2 (by rw [hd, if_pos (.inr (.inr ne))]) _ (s14.trans s5)
      · walk_at "go"
        rename_i p np H6 s6 hp
        refine q1 _ p z n ?_ (s14.trans (s5.trans s6)) hp
        rw [hd, if_neg]
        rintro (z1 | z1 | z1)
        · exact c z1
        · rw [hm] at z1; cases z1
        · exact z1 e
theorem encE_good {z : Str} {n : Int} (h : isNm z = true) (n0 : 1 ≤ n) (n1 : n ≤ 65535) : decE (encE z n) = some (z, n) ∧ ∀ x ∈ encE z n, 0 ≤ x ∧ x < 256 := by
  obtain ⟨l1, l2, hg, h47, hd1, hd2⟩ := isNm_iff.mp h
  have el := encE_len z n
  have gd : ∀ k, 0 ≤ (ocs z).getD k 0 ∧ (ocs z).getD k 0 < 256 := fun k => by
    rw [List.getD_eq_getElem?_getD]
    cases e : (ocs z)[k]? with
    | none => exact ⟨Int.le_refl 0, by decide⟩
    | some x =>
      have hx := List.mem_of_getElem? e
      rw [← ocs_good] at hg
      have := goodI_iff.mp (List.all_eq_true.mp hg x hx)
      simp only [Option.getD_some]
      omega
  have hb : ∀ x ∈ encE z n, 0 ≤ x ∧ x < 256 := fun x hx => by
    obtain ⟨i, hi, e⟩ := List.getElem_of_mem hx
    rw [el] at hi
    have ev : (encE z n).getD i 0 = x := by rw [List.getD_eq_getElem?_getD, List.getElem?_eq_getElem (by omega), e]; rfl
    rw [← ev]
    match i, hi with
    | 0, _ => rw [encE_0]; omega
    | 1, _ => rw [encE_1]; omega
    | 2, _ => rw [encE_2]; omega
    | k + 3, hk => rw [show k + 3 = 3 + k by omega, encE_k z n (by omega)]; exact gd k
  refine ⟨?_, hb⟩
  have v2 := val2_of el
  rw [encE_0, encE_1] at v2
  have ev : val ((encE z n).take 2) = n := by rw [v2]; omega
  have ep : partE (encE z n) = ocs z := by
    have hpl := partE_len el (by rw [encE_2]; omega)
    rw [encE_2] at hpl
    refine List.ext_getElem (by rw [hpl, ocs_len]; omega) fun i h1 h2 => ?_
    rw [ocs_len] at h2
    have := partE_at el (by rw [encE_2]; omega) (k := i) (by omega) (by rw [encE_2]; omega)
    rw [encE_k z n (by omega), List.getD_eq_getElem?_getD, List.getD_eq_getElem?_getD, List.getElem?_eq_getElem h1, List.getElem?_eq_getElem (by rw [ocs_len]; exact h2)] at this
    exact this
  unfold decE
  rw [ep, ocs_back, ev, if_neg]
  rw [← ocs_good] at hg
  rintro (c | c | c | c)
  · omega
  · rw [hg] at c; cases c
  · rw [h] at c; cases c
  · exact c rfl
def goodP (ns : List Int) : Prop := ns.getD 0 0 + ns.getD 1 0 ≠ 0 ∧ 1 ≤ ns.getD 2 0 ∧ ns.getD 2 0 ≤ 28 ∧ (∀ k : Nat, k < 29 → (ns.getD 2 0 ≤ (k : Int) → ns.getD (3 + k) 0 = 0) ∧ ((k : Int) < ns.getD 2 0 → 32 ≤ ns.getD (3 + k) 0 ∧ ns.getD (3 + k) 0 ≤ 126 ∧ ns.getD (3 + k) 0 ≠ 37 ∧ ns.getD (3 + k) 0 ≠ 47)) ∧ partE ns ≠ [46] ∧ partE ns ≠ [46, 46]
theorem S_dot : Str.ofString "." = SX.S [46] := by decide +kernel
theorem S_dots : Str.ofString ".." = SX.S [46, 46] := by decide +kernel
theorem ocs_dot {z : Str} (h : z = ".") : ocs z = [46] := by rw [h, S_dot]; rfl
theorem ocs_dots {z : Str} (h : z = "..") : ocs z = [46, 46] := by rw [h, S_dots]; rfl
theorem good_dec {ns : List Int} (h : ns.length = 32) (hb : ∀ x ∈ ns, 0 ≤ x ∧ x < 256) : goodP ns ↔ ∃ z n, decE ns = some (z, n) := by
  have h0 := byte_at hb 0
  have h1 := byte_at hb 1
  have h2 := byte_at hb 2
  have pl := partE_len h h2.1
  have v2 := val2_of h
  have oc := partE_ocs hb
  have sl := partS_len hb
  have pa : ∀ k : Nat, k < 29 → (k : Int) < ns.getD 2 0 → (partE ns)[k]? = some (ns.getD (3 + k) 0) := fun k hk hl => by
    have := partE_at h h2.1 hk hl
    rw [List.getD_eq_getElem?_getD, List.getElem?_eq_getElem (by omega), Option.getD_some] at this
    rw [List.getElem?_eq_getElem (by omega), this]
  constructor
  · rintro ⟨a1, a2, a3, a4, a5, a6⟩
    refine ⟨SX.S ((partE ns).map Int.toNat), val (ns.take 2), ?_⟩
    unfold decE
    rw [if_neg]
    have hg : (partE ns).all goodI = true := by
      rw [List.all_eq_true]
      intro x hx
      obtain ⟨i, hi, e⟩ := List.getElem_of_mem hx
      have := pa i (by omega) (by omega)
      rw [List.getElem?_eq_getElem hi, e] at this
      cases this
      have := (a4 i (by omega)).2 (by omega)
      exact goodI_iff.mpr ⟨this.1, this.2.1, this.2.2.1⟩
    rintro (c | c | c | c)
    · omega
    · rw [hg] at c; cases c
    · have : isNm (SX.S ((partE ns).map Int.toNat)) = true := by
        refine isNm_iff.mpr ⟨by omega, by omega, by rw [← ocs_good, oc]; exact hg, fun z => ?_, fun z => ?_, fun z => ?_⟩
        · have hm : (47 : Int) ∈ ocs (SX.S ((partE ns).map Int.toNat)) := List.mem_map.mpr ⟨47, z, rfl⟩
          rw [oc] at hm
          obtain ⟨i, hi, e⟩ := List.getElem_of_mem hm
          have := pa i (by omega) (by omega)
          rw [List.getElem?_eq_getElem hi, e] at this
          exact ((a4 i (by omega)).2 (by omega)).2.2.2 (Option.some.inj this).symm
        · exact a5 (by rw [← oc]; exact ocs_dot z)
        · exact a6 (by rw [← oc]; exact ocs_dots z)
      rw [this] at c; cases c
    · exact c ((encE_iff h hb).mpr ⟨by omega, fun k hk hl => (a4 k hk).1 hl⟩)
  · rintro ⟨z, n, e⟩
    unfold decE at e
    split at e
    · cases e
    · rename_i c
      simp only [not_or] at c
      obtain ⟨c1, c2, c3, c4⟩ := c
      have c4 := (encE_iff h hb).mp (Decidable.not_not.mp c4)
      have c3 : isNm (SX.S ((partE ns).map Int.toNat)) = true := by simpa using c3
      obtain ⟨l1, l2, hg, h47, hd1, hd2⟩ := isNm_iff.mp c3
      rw [← ocs_good, oc] at hg
      refine ⟨fun z => c1 (by omega), by omega, by omega, fun k hk => ⟨fun hl => c4.2 k hk hl, fun hl => ?_⟩, fun z => hd1 ?_, fun z => hd2 ?_⟩
      · have hm := List.mem_of_getElem? (pa k hk hl)
        have := goodI_iff.mp (List.all_eq_true.mp hg _ hm)
        refine ⟨this.1, this.2.1, this.2.2, fun z => h47 ?_⟩
        rw [z, ← oc] at hm
        obtain ⟨c, hc, e⟩ := List.mem_map.mp hm
        rw [show (47 : Nat) = c by omega]
        exact hc
      · rw [S_dot, z]; rfl
      · rw [S_dots, z]; rfl
def sp_law_is_integer  : Sp := fun args_ H Q _ => ∃ (i : Int), args_ = [.int i] ∧ Q (.bl true) H
theorem i_law_is_integer  {args_ : List V} {H : Hp} {Q : V → Hp → Prop} {E : XK} {i : Int} (ev : args_ = [.int i]) (q : Q (.bl true) H) : sp_law_is_integer  args_ H Q E := ⟨i, ev, q⟩
local macro_rules | `(tactic| walk_at "ca1") => `(tactic| with_reducible (refine' Sg.i_law_is_integer ?ev ?_; (case ev => (with_unfolding_all rfl))))

theorem ok_law_is_integer (T : Txt K mg) : FnOk P w K mg base CX0 1 T.a_law_is_integer T.fd_law_is_integer ["actual"] sp_law_is_integer := by
  refine T.F_law_is_integer.ok sc_law_is_integer (fun vs H Q E h => ?_) (fun cdv A outer s H vs Q E hr h => ?_)
  · obtain ⟨i, rfl, _⟩ := h
    rfl
  · refine ⟨_, (pss_one (ps_ret (pe_and (pe_callB (call_isi) (by rfl) T.n_isinstance (by decide +kernel) (pa_cons (pv 0) (pa_cons (pe_bltn (v := .ty "int") (by rfl) T.n_int (by decide +kernel) rfl) pa_nil))) (pe_one (pe_not (pe_callB (call_isi) (by rfl) T.n_isinstance (by decide +kernel) (pa_cons (pv 0) (pa_cons (pe_bltn (v := .ty "bool") (by rfl) T.n_bool (by decide +kernel) rfl) pa_nil)))))))), ?_⟩
    try dsimp only [cxOf, Cx.nox, Cx.wish]
    obtain ⟨i, rfl, q⟩ := h
    walk_at "go"
    exact q
def sp_law_is  : Sp := fun args_ H Q _ => ∃ (b : Bool), args_ = [.bl b, .bl b] ∧ Q (.bl true) H
theorem i_law_is  {args_ : List V} {H : Hp} {Q : V → Hp → Prop} {E : XK} {b : Bool} (ev : args_ = [.bl b, .bl b]) (q : Q (.bl true) H) : sp_law_is  args_ H Q E := ⟨b, ev, q⟩
local macro_rules | `(tactic| walk_at "ca1") => `(tactic| with_reducible (refine' Sg.i_law_is ?ev ?_; (case ev => (with_unfolding_all rfl))))

theorem ok_law_is (T : Txt K mg) : FnOk P w K mg base CX0 1 T.a_law_is T.fd_law_is ["actual", "due"] sp_law_is := by
  refine T.F_law_is.ok sc_law_is (fun vs H Q E h => ?_) (fun cdv A outer s H vs Q E hr h => ?_)
  · obtain ⟨b, rfl, _⟩ := h
    rfl
  · refine ⟨_, (pss_one (ps_ret (pe_and (pe_callB (call_isi) (by rfl) T.n_isinstance (by decide +kernel) (pa_cons (pv 0) (pa_cons (pe_bltn (v := .ty "bool") (by rfl) T.n_bool (by decide +kernel) rfl) pa_nil))) (pe_one (pe_cmpR op_eq (pv 0) (pv 1) (nomark _)))))), ?_⟩
    try dsimp only [cxOf, Cx.nox, Cx.wish]
    obtain ⟨b, rfl, q⟩ := h
    walk_at "go"
    rw [decide_eq_true rfl]
    exact q
theorem S_slash : Str.ofString "/" = SX.S [47] := by decide +kernel
theorem S_under : Str.ofString "_" = SX.S [95] := by decide +kernel
theorem at7 {i : Int} (h0 : 0 ≤ i) (h1 : i < 7) : ∃ z : Str, atI [V.str ".a", V.str "..a", V.str "...", V.str "a.", V.str " ", V.str "~", V.str "a b"] i = some (.str z) ∧ 1 ≤ z.length ∧ z.length ≤ 28 ∧ z.cps.toList.all goodN = true ∧ 47 ∉ z.cps.toList := by
  have : i = 0 ∨ i = 1 ∨ i = 2 ∨ i = 3 ∨ i = 4 ∨ i = 5 ∨ i = 6 := by omega
  rcases this with rfl | rfl | rfl | rfl | rfl | rfl | rfl <;> exact ⟨_, rfl, by decide +kernel, by decide +kernel, by decide +kernel, by decide +kernel⟩
def sp_law_name  : Sp := fun args_ H Q _ => ∃ (n : Int), args_ = [.int n] ∧ 0 ≤ n ∧ ∀ H' z, Same H H' → isNm z = true → Q (.str z) H'
theorem i_law_name  {args_ : List V} {H : Hp} {Q : V → Hp → Prop} {E : XK} {n : Int} (ev : args_ = [.int n]) (n0 : 0 ≤ n) (q : ∀ H' z, Same H H' → isNm z = true → Q (.str z) H') : sp_law_name  args_ H Q E := ⟨n, ev, n0, q⟩
local macro_rules | `(tactic| walk_at "ca1") => `(tactic| with_reducible (refine' Sg.i_law_name ?ev ?n0 ?_; (case ev => (with_unfolding_all rfl)); (case n0 => (with_unfolding_all walk_at "pr")); intros))

theorem ok_law_name (T : Txt K mg) : FnOk P w K mg base CX0 3 T.a_law_name T.fd_law_name ["number"] sp_law_name := by
  refine T.F_law_name.ok sc_law_name (fun vs H Q E h => ?_) (fun cdv A outer s H vs Q E hr h => ?_)
  · obtain ⟨n, rfl, _⟩ := h
    rfl
  · refine ⟨_, (pss_cons (ps_set (i := 1) sc_law_name.nd rfl (Or.inl rfl) pe_str)
       (pss_cons (ps_for PassesOwn.never rfl (pi_str (pe_call (ok_law_text T) (hr.mono (by decide)) rfl T.m_law_text T.F_law_text.kp T.b_law_text .nil pass0 (pa_cons (pe_op op_fdiv (pe_callTy c_int (by rfl) T.n_int (by decide +kernel) (pa_cons (pv 0) pa_nil)) pe_int) (pa_cons (pe_op op_add pe_int (pe_op op_mod (pe_callTy c_int (by rfl) T.n_int (by decide +kernel) (pa_cons (pv 0) pa_nil)) pe_int)) pa_nil)))) (pg_name (i := 2) sc_law_name.nd rfl (Or.inl rfl))
       (C8.pss_cut (ps_if (pt_cmpR op_eq (pv 2) pe_str (nomark _))
       (pss_one (ps_set (i := 2) sc_law_name.nd rfl (Or.inl rfl) pe_str))
       pss_nil)
       (pss_one (ps_set (i := 1) sc_law_name.nd rfl (Or.inl rfl) (pe_op op_addT (pv 1) (pv 2))))))
       (C8.pss_cut (ps_if (pt_cmpR op_eq (pe_op op_mod (pe_callTy c_int (by rfl) T.n_int (by decide +kernel) (pa_cons (pv 0) pa_nil)) pe_int) pe_int (nomark _))
       (pss_one (ps_set (i := 1) sc_law_name.nd rfl (Or.inl rfl) (pe_ix ix_list (pe_lst (pa_cons pe_str (pa_cons pe_str (pa_cons pe_str (pa_cons pe_str (pa_cons pe_str (pa_cons pe_str (pa_cons pe_str pa_nil)))))))) (pe_op op_mod (pe_op op_fdiv (pe_callTy c_int (by rfl) T.n_int (by decide +kernel) (pa_cons (pv 0) pa_nil)) pe_int) pe_int) (fun _ _ => rfl))))
       pss_nil)
       (C8.pss_cut (ps_if (PW.pt (pw_or (pt_cmpR op_eq (pv 1) pe_str (nomark _)) (pw_or1 (pt_cmpR op_eq (pv 1) pe_str (nomark _)))))
       (pss_one (ps_set (i := 1) sc_law_name.nd rfl (Or.inl rfl) (pe_op op_addT (pv 1) pe_str)))
       pss_nil)
       (pss_one (ps_ret (pv 1))))))), ?_⟩
    try dsimp only [cxOf, Cx.nox, Cx.wish]
    obtain ⟨n, rfl, n0, q⟩ := h
    walk_at "go"
    rename_i z hz hg
    have hz28 : z.length ≤ 28 := by omega
    have hz1 : 1 ≤ z.length := by omega
    refine r_forS (fun i σ' H' => ∃ (t : Str) (v : Option V), σ' = [some (.int n), some (.str t), v] ∧ H = H' ∧ t.length = i ∧ t.cps.toList.all goodN = true ∧ 47 ∉ t.cps.toList) ⟨_, _, rfl, rfl, rfl, rfl, by decide +kernel⟩ ?_ ?_
    · rintro i c σ' H' hc ⟨t, v, rfl, rfl, tl, tg, t47⟩
      have hi : i < z.length := by rw [← len_tl]; exact (List.getElem?_eq_some_iff.mp hc).1
      have gc := List.all_eq_true.mp hg c (List.mem_of_getElem? hc)
      walk_at "go"
      refine r_cut (fun σ' H' => ∃ d : Nat, goodN d = true ∧ d ≠ 47 ∧ σ' = [some (.int n), some (.str t), some (.str (SX.S [d]))] ∧ H = H') ?_ ?_
      · walk_at "go"
        refine r_ite (fun _ => ?_) (fun e => ?_)
        · walk_at "go"
          rw [S_under]
          exact ⟨95, by decide, by decide, rfl, rfl⟩
        · walk_at "go"
          exact ⟨c, gc, fun z => e (by rw [z, S_slash]), rfl, rfl⟩
      rintro _ _ ⟨d, gd, d47, rfl, rfl⟩
      have sl1 : (SX.S [d]).length = 1 := SX.S_len [d]
      walk_at "go"
      refine ⟨_, _, rfl, rfl, by rw [app_len, tl, sl1], ?_, ?_⟩
      · rw [app_tl, List.all_append, tg]
        show (true && ([d].all goodN)) = true
        rw [List.all_cons, gd]
        rfl
      · rw [app_tl]
        intro z
        rcases List.mem_append.mp z with z | z
        · exact t47 z
        · exact d47 (List.mem_singleton.mp (show 47 ∈ [d] from z)).symm
    · rintro σ' H' ⟨t, v, rfl, rfl, tl, tg, t47⟩
      walk_at "go"
      refine r_cut (fun σ' H' => ∃ (t : Str) (v : Option V), σ' = [some (.int n), some (.str t), v] ∧ Same H H' ∧ 1 ≤ t.length ∧ t.length ≤ 28 ∧ t.cps.toList.all goodN = true ∧ 47 ∉ t.cps.toList) ?_ ?_
      · walk_at "go"
        refine r_ite (fun _ => ?_) (fun e => ?_)
        · walk_at "go"
          rename_i p np H1 s1 hp j hj j0 j1
          obtain ⟨y, hy, y1, y2, y3, y4⟩ := at7 j0 j1
          refine r_ixl (.inl (.inl hp)) hy ?_
          walk_at "go"
          exact ⟨_, _, rfl, s1, y1, y2, y3, y4⟩
        · walk_at "go"
          exact ⟨_, _, rfl, Same.refl _, by omega, by omega, tg, t47⟩
      rintro _ H1 ⟨t, v, rfl, s1, t1, t28, tg, t47⟩
      refine r_cut (fun σ' H' => ∃ (t : Str) (v : Option V), σ' = [some (.int n), some (.str t), v] ∧ H1 = H' ∧ isNm t = true) ?_ ?_
      · walk_at "go"
        by_cases c : t = "." ∨ t = ".."
        · have := S_dot
          have := S_dots
          have tl : t.length ≤ 2 := by rcases c with c | c <;> (rw [c]; decide +kernel)
          have done : isNm (t ++ "_") = true := by rcases c with c | c <;> (rw [c]; decide +kernel)
          have ul : (Str.ofString "_").length = 1 := by decide +kernel
          rcases c with c | c
          · walk_at "go"
            exact ⟨_, _, rfl, rfl, done⟩
          · refine r_ite (fun _ => ?_) (fun _ => ?_)
            · walk_at "go"
              exact ⟨_, _, rfl, rfl, done⟩
            · walk_at "go"
              exact ⟨_, _, rfl, rfl, done⟩
        · have c1 : ¬ t = "." := fun z => c (.inl z)
          have c2 : ¬ t = ".." := fun z => c (.inr z)
          walk_at "go"
          exact ⟨t, _, rfl, rfl, isNm_iff.mpr ⟨t1, t28, tg, t47, c1, c2⟩⟩
      rintro _ _ ⟨t, v, rfl, rfl, ht⟩
      walk_at "go"
      exact q _ _ s1 ht
theorem map_app3 (a b c : Int) (ns : List Int) (n : Nat) : [V.int a, V.int b, V.int c] ++ ns.map V.int ++ List.replicate n (V.int 0) = ([a, b, c] ++ ns ++ List.replicate n 0).map V.int := by
  rw [List.map_append, List.map_append, List.map_replicate]
  rfl
def sp_law_octets  : Sp := fun args_ H Q _ => ∃ (z : Str) (n : Int), args_ = [.str z, .int n] ∧ z.length ≤ 28 ∧ 0 ≤ n ∧ n ≤ 65535 ∧ ∀ H' l, Same H H' → H l = none → H' l = some (.lst ((encE z n).map V.int)) → Q (.ref l) H'
theorem i_law_octets  {args_ : List V} {H : Hp} {Q : V → Hp → Prop} {E : XK} {z : Str} {n : Int} (ev : args_ = [.str z, .int n]) (zl : z.length ≤ 28) (n0 : 0 ≤ n) (n1 : n ≤ 65535) (q : ∀ H' l, Same H H' → H l = none → H' l = some (.lst ((encE z n).map V.int)) → Q (.ref l) H') : sp_law_octets  args_ H Q E := ⟨z, n, ev, zl, n0, n1, q⟩
local macro_rules | `(tactic| walk_at "ca1") => `(tactic| with_reducible (refine' Sg.i_law_octets ?ev ?zl ?n0 ?n1 ?_; (case ev => (with_unfolding_all rfl)); (case zl => (with_unfolding_all walk_at "pr")); (case n0 => (with_unfolding_all walk_at "pr")); (case n1 => (with_unfolding_all walk_at "pr")); intros))

theorem ok_law_octets (T : Txt K mg) : FnOk P w K mg base CX0 1 T.a_law_octets T.fd_law_octets ["name", "number"] sp_law_octets := by
  refine T.F_law_octets.ok sc_law_octets (fun vs H Q E h => ?_) (fun cdv A outer s H vs Q E hr h => ?_)
  · obtain ⟨z, n, rfl, _⟩ := h
    rfl
  · refine ⟨_, (pss_one (ps_ret (pe_op op_cat (pe_op op_cat (pe_lst (pa_cons (pe_op op_mod (pv 1) pe_int) (pa_cons (pe_op op_fdiv (pv 1) pe_int) (pa_cons (pe_callB (c_lenS) (by rfl) T.n_len (by decide +kernel) (pa_cons (pv 0) pa_nil)) pa_nil)))) (pe_lc (own := [("char", 2)]) (g := gName 2) (tt := tYes) rfl sc_law_octets.nd (pi_str (pv 0)) (blkOk_by (own := [("char", 2)]) (N := n_law_octets) (sc := defScope s_law_octets) (by decide +kernel)) (fun _ _ _ _ _ => pg_name (i := 2) sc_law_octets.nd rfl (Or.inl rfl)) (fun _ _ _ _ _ => pts_nil) (fun _ _ _ _ _ => (pe_callB (call_ord) (by rfl) T.n_ord (by decide +kernel) (pa_cons (pv 2) pa_nil))))) (pe_op op_rep (pe_lst (pa_cons pe_int pa_nil)) (pe_op op_sub pe_int (pe_callB (c_lenS) (by rfl) T.n_len (by decide +kernel) (pa_cons (pv 0) pa_nil))))))), ?_⟩
    try dsimp only [cxOf, Cx.nox, Cx.wish]
    obtain ⟨z, n, rfl, zl, n0, n1, q⟩ := h
    walk_at "go"
    rename_i l1 m1 H1 s1 g1
    refine r_lcS (fun c => .int (c : Int)) (by omega) rfl ?_ ?_
    · intro i c H' hc s R hR
      walk_at "go"
      refine ⟨_, rfl, rfl, ?_⟩
      exact hR _ (L2.Same.refl _)
    intro H2 l2 s2 m2 g2
    rw [show z.cps.toList.map (fun c : Nat => V.int (c : Int)) = (ocs z).map V.int from by rw [ocs, List.map_map]; rfl] at g2
    have ol := ocs_len z
    walk_at "go"
    rename_i b hb b0 b1 p1 np1 H3 s3 g3 p2 np2 H4 s4 g4 p3 np3 H5 s5 g5 p4 np4 H6 s6 g6
    refine q _ _ (by walk_at "sm") ?_ ?_
    · exact (s1.trans (s2.trans (s3.trans (s4.trans s5)))).free np4
    rw [map_app3] at g6
    rw [g6, show [b, n / 256, (z.length : Int)] ++ ocs z ++ List.replicate (29 - (z.length : Int)).toNat 0 = encE z n from ?_]
    refine ext_getD (n := 32) (by simp only [List.length_append, List.length_cons, List.length_nil, List.length_replicate, ol]; omega) (encE_len _ _) fun i hi => ?_
    match i, hi with
    | 0, _ => rw [encE_0]; exact hb
    | 1, _ => rw [encE_1]; show n / 256 = _; omega
    | 2, _ => rw [encE_2]; rfl
    | k + 3, hk =>
      rw [show k + 3 = 3 + k by omega, encE_k z n (by omega), List.getD_eq_getElem?_getD, List.getD_eq_getElem?_getD]
      by_cases c : k < z.length
      · rw [List.getElem?_append_left (by simp only [List.length_append, List.length_cons, List.length_nil, ol]; omega), List.getElem?_append_right (by simp)]
        simp
      · rw [List.getElem?_append_right (by simp only [List.length_append, List.length_cons, List.length_nil, ol]; omega), List.getElem?_replicate, List.getElem?_eq_none (l := ocs z) (by omega)]
        split <;> rfl
def sp_law_good (K : PySem.W.Frag) : Sp := fun args_ H Q _ => ∃ (a : Addr) (ns : List Int), args_ = [.ref a] ∧ SqL K H a (ns.map V.int) ∧ ns.length = 32 ∧ (∀ x ∈ ns, 0 ≤ x ∧ x < 256) ∧ ((goodP ns → ∀ H', Same H H' → Q (.bl true) H')) ∧ (¬ goodP ns → ∀ H', Same H H' → Q (.bl false) H')
theorem i_law_good {K : PySem.W.Frag} {args_ : List V} {H : Hp} {Q : V → Hp → Prop} {E : XK} {a : Addr} {ns : List Int} (ev : args_ = [.ref a]) (h : SqL K H a (ns.map V.int)) (hl : ns.length = 32) (hb : (∀ x ∈ ns, 0 ≤ x ∧ x < 256)) (q1 : (goodP ns → ∀ H', Same H H' → Q (.bl true) H')) (q2 : (¬ goodP ns → ∀ H', Same H H' → Q (.bl false) H')) : sp_law_good K args_ H Q E := ⟨a, ns, ev, h, hl, hb, q1, q2⟩
local macro_rules | `(tactic| walk_at "ca1") => `(tactic| with_reducible (refine' Sg.i_law_good ?ev ?h ?hl ?hb ?q1 ?q2; (case ev => (with_unfolding_all rfl)); (case h => (with_unfolding_all walk_at "pr")); (case hl => (with_unfolding_all walk_at "pr")); (case hb => (with_unfolding_all walk_at "pr"))))

theorem ok_law_good (T : Txt K mg) : FnOk P w K mg base CX0 1 T.a_law_good T.fd_law_good ["octets"] (sp_law_good K) := by
  refine T.F_law_good.ok sc_law_good (fun vs H Q E h => ?_) (fun cdv A outer s H vs Q E hr h => ?_)
  · obtain ⟨a, ns, rfl, _⟩ := h
    rfl
  · refine ⟨_, (pss_cons (ps_set (i := 1) sc_law_good.nd rfl (Or.inl rfl) (pe_ix ix_list (pv 0) pe_int (fun _ _ => rfl)))
       (C8.pss_cut (ps_if (PW.pt (pw_or (pt_cmpR op_eq (pe_op op_add (pe_ix ix_list (pv 0) pe_int (fun _ _ => rfl)) (pe_ix ix_list (pv 0) pe_int (fun _ _ => rfl))) pe_int (nomark _)) (pw_or (pt_cmpR op_lt (pv 1) pe_int (nomark _)) (pw_or1 (pt_cmpR op_gt (pv 1) pe_int (nomark _))))))
       (pss_one (ps_ret pe_bl))
       pss_nil)
       (pss_cons (ps_for PassesOwn.never rfl (pi_range1 rfl T.n_range (pa_cons pe_int pa_nil)) (pg_name (i := 2) sc_law_good.nd rfl (Or.inl rfl))
       (pss_cons (ps_set (i := 3) sc_law_good.nd rfl (Or.inl rfl) (pe_ix ix_list (pv 0) (pe_op op_add pe_int (pv 2)) (fun _ _ => rfl)))
       (C8.pss_cut (ps_if (PW.pt (pw_and (pt_cmpR op_ge (pv 2) (pv 1) (nomark _)) (pw_and1 (pt_cmpR op_ne (pv 3) pe_int (nomark _)))))
       (pss_one (ps_ret pe_bl))
       pss_nil)
       (pss_one (ps_if (PW.pt (pw_and (pt_cmpR op_lt (pv 2) (pv 1) (nomark _)) (pw_and1 (PW.pt (pw_or (pt_cmpR op_lt (pv 3) pe_int (nomark _)) (pw_or (pt_cmpR op_gt (pv 3) pe_int (nomark _)) (pw_or (pt_cmpR op_eq (pv 3) pe_int (nomark _)) (pw_or1 (pt_cmpR op_eq (pv 3) pe_int (nomark _))))))))))
       (pss_one (ps_ret pe_bl))
       pss_nil)))))
       (pss_one (ps_ret (pe_and (pe_cmpR (op_neD hr.units) (pe_slice sl_list (pv 0) (po_some pe_int) (po_some (pe_op op_add pe_int (pv 1)))) (pe_lst (pa_cons pe_int pa_nil)) (nomark _)) (pe_one (pe_cmpR (op_neD hr.units) (pe_slice sl_list (pv 0) (po_some pe_int) (po_some (pe_op op_add pe_int (pv 1)))) (pe_lst (pa_cons pe_int (pa_cons pe_int pa_nil))) (nomark _))))))))), ?_⟩
    try dsimp only [cxOf, Cx.nox, Cx.wish]
    obtain ⟨a, ns, rfl, h, hl, hb, q1, q2⟩ := h
    have b0 := byte_at hb 0
    have b1 := byte_at hb 1
    have b2 := byte_at hb 2
    have h0 : atI (ns.map V.int) 0 = some (.int (ns.getD 0 0)) := at_ints (k := 0) (by decide) (by omega)
    have h1 : atI (ns.map V.int) 1 = some (.int (ns.getD 1 0)) := at_ints (k := 1) (by decide) (by omega)
    have h2 : atI (ns.map V.int) 2 = some (.int (ns.getD 2 0)) := at_ints (k := 2) (by decide) (by omega)
    walk_at "go"
    refine r_ixl h h2 ?_
    walk_at "go"
    refine r_cut (fun σ' H' => ns.getD 0 0 + ns.getD 1 0 ≠ 0 ∧ 1 ≤ ns.getD 2 0 ∧ ns.getD 2 0 ≤ 28 ∧ σ' = [some (.ref a), some (.int (ns.getD 2 0)), none, none] ∧ H = H') ?_ ?_
    · walk_at "go"
      refine r_ixl h h0 ?_
      walk_at "go"
      refine r_ixl h h1 ?_
      walk_at "gs"
      all_goals first
        | exact ⟨by omega, by omega, by omega, rfl, rfl⟩
        | exact q2 (fun z => by obtain ⟨z1, z2, z3, _⟩ := z; omega) _ (Same.refl _)
    rintro _ _ ⟨c1, c2, c3, rfl, rfl⟩
    walk_at "go"
    refine r_forR (fun i σ' H' => ∃ v2 v3 : Option V, σ' = [some (.ref a), some (.int (ns.getD 2 0)), v2, v3] ∧ H = H' ∧ ∀ k : Nat, k < i → (ns.getD 2 0 ≤ (k : Int) → ns.getD (3 + k) 0 = 0) ∧ ((k : Int) < ns.getD 2 0 → 32 ≤ ns.getD (3 + k) 0 ∧ ns.getD (3 + k) 0 ≤ 126 ∧ ns.getD (3 + k) 0 ≠ 37 ∧ ns.getD (3 + k) 0 ≠ 47)) ⟨_, _, rfl, rfl, fun k hk => absurd hk (Nat.not_lt_zero _)⟩ ?_ ?_
    · rintro i σ' H' hi ⟨v2, v3, rfl, rfl, hall⟩
      have hk : atI (ns.map V.int) (3 + (0 + (i : Int))) = some (.int (ns.getD (3 + i) 0)) := by
        have := at_ints (ts := ns) (k := 3 + (0 + (i : Int))) (by omega) (by omega)
        rw [this, show (3 + (0 + (i : Int))).toNat = 3 + i by omega]
      have bad : ¬ ((ns.getD 2 0 ≤ (i : Int) → ns.getD (3 + i) 0 = 0) ∧ ((i : Int) < ns.getD 2 0 → 32 ≤ ns.getD (3 + i) 0 ∧ ns.getD (3 + i) 0 ≤ 126 ∧ ns.getD (3 + i) 0 ≠ 37 ∧ ns.getD (3 + i) 0 ≠ 47)) → Q (.bl false) H := fun z => q2 (fun ⟨_, _, _, z4, _⟩ => z (z4 i (by omega))) _ (Same.refl _)
      have next : ((ns.getD 2 0 ≤ (i : Int) → ns.getD (3 + i) 0 = 0) ∧ ((i : Int) < ns.getD 2 0 → 32 ≤ ns.getD (3 + i) 0 ∧ ns.getD (3 + i) 0 ≤ 126 ∧ ns.getD (3 + i) 0 ≠ 37 ∧ ns.getD (3 + i) 0 ≠ 47)) → ∀ k : Nat, k < i + 1 → (ns.getD 2 0 ≤ (k : Int) → ns.getD (3 + k) 0 = 0) ∧ ((k : Int) < ns.getD 2 0 → 32 ≤ ns.getD (3 + k) 0 ∧ ns.getD (3 + k) 0 ≤ 126 ∧ ns.getD (3 + k) 0 ≠ 37 ∧ ns.getD (3 + k) 0 ≠ 47) := fun z k hk => by
        rcases Nat.lt_or_ge k i with y | y
        · exact hall k y
        · rw [show k = i by omega]; exact z
      walk_at "go"
      refine r_ixl h hk ?_
      generalize ns.getD (3 + i) 0 = code at hk bad next ⊢
      generalize ns.getD 2 0 = len at bad next ⊢
      walk_at "go"
      refine r_cut (fun σ' H' => (len ≤ (i : Int) → code = 0) ∧ σ' = [some (.ref a), some (.int len), some (.int (0 + (i : Int))), some (.int code)] ∧ H = H') ?_ ?_
      · walk_at "gs"
        all_goals first
          | exact ⟨by omega, rfl, rfl⟩
          | exact bad (by omega)
      rintro _ _ ⟨z0, rfl, rfl⟩
      walk_at "gs"
      all_goals first
        | exact bad (by omega)
        | exact ⟨_, _, rfl, rfl, next (by omega)⟩
    · rintro σ' H' ⟨v2, v3, rfl, rfl, hall⟩
      walk_at "go"
      rename_i l1 n1 H1 s1 g1 l2 n2 H2 s2 g2
      rw [cut_both (by decide) (by omega), ← List.map_drop, ← List.map_take] at g1
      have e46 : ∀ xs : List Int, ns.map V.int = ns.map V.int → True := fun _ _ => trivial
      refine r_ned (Dp.ints (ns := partE ns) (.of (s2 _ _ g1))) (Dp.ints (ns := [46]) (.of g2)) (Fl.intlS _) (Fl.intlS _) ?_
      rw [eqv_ints]
      walk_at "go"
      refine r_iteN (fun ne => ?_) (fun e => ?_)
      case refine_2 =>
        exact q2 (fun ⟨_, _, _, _, z5, _⟩ => z5 e) _ (s1.trans s2)
      walk_at "go"
      rename_i l3 n3 H3 s3 g3 l4 n4 H4 s4 g4
      rw [cut_both (by decide) (by omega), ← List.map_drop, ← List.map_take] at g3
      refine r_ned (Dp.ints (ns := partE ns) (.of (s4 _ _ g3))) (Dp.ints (ns := [46, 46]) (.of g4)) (Fl.intlS _) (Fl.intlS _) ?_
      rw [eqv_ints]
      have s14 := s1.trans (s2.trans (s3.trans s4))
      by_cases e : partE ns = [46, 46]
      · rw [decide_eq_true e]
        exact q2 (fun ⟨_, _, _, _, _, z6⟩ => z6 e) _ s14
      · rw [decide_eq_false e]
        exact q1 ⟨c1, c2, c3, hall, ne, e⟩ _ s14
def sp_law_reads (K : PySem.W.Frag) : Sp := fun args_ H Q _ => ∃ (a : Addr) (ns : List Int), args_ = [.ref a] ∧ SqL K H a (ns.map V.int) ∧ ns.length = 32 ∧ (∀ x ∈ ns, 0 ≤ x ∧ x < 256) ∧ ∀ H', Same H H' → Q (.bl true) H'
theorem i_law_reads {K : PySem.W.Frag} {args_ : List V} {H : Hp} {Q : V → Hp → Prop} {E : XK} {a : Addr} {ns : List Int} (ev : args_ = [.ref a]) (h : SqL K H a (ns.map V.int)) (hl : ns.length = 32) (hb : (∀ x ∈ ns, 0 ≤ x ∧ x < 256)) (q : ∀ H', Same H H' → Q (.bl true) H') : sp_law_reads K args_ H Q E := ⟨a, ns, ev, h, hl, hb, q⟩
local macro_rules | `(tactic| walk_at "ca1") => `(tactic| with_reducible (refine' Sg.i_law_reads ?ev ?h ?hl ?hb ?_; (case ev => (with_unfolding_all rfl)); (case h => (with_unfolding_all walk_at "pr")); (case hl => (with_unfolding_all walk_at "pr")); (case hb => (with_unfolding_all walk_at "pr")); intros))

theorem ok_law_reads (T : Txt K mg) : FnOk P w K mg base CX0 5 T.a_law_reads T.fd_law_reads ["octets"] (sp_law_reads K) := by
  refine T.F_law_reads.ok sc_law_reads (fun vs H Q E h => ?_) (fun cdv A outer s H vs Q E hr h => ?_)
  · obtain ⟨a, ns, rfl, _⟩ := h
    rfl
  · refine ⟨_, (pss_cons (ps_set (i := 1) sc_law_reads.nd rfl (Or.inl rfl) (pe_callTy c_list (by rfl) T.n_list (by decide +kernel) (pa_cons (pv 0) pa_nil)))
       (pss_cons (ps_set (i := 2) sc_law_reads.nd rfl (Or.inl rfl) (pe_call (ok_decode_entry T) (hr.mono (by decide)) rfl T.m_decode_entry T.F_decode_entry.kp T.b_decode_entry .nil pass0 (pa_cons (pv 1) pa_nil)))
       (pss_cons (ps_if (pt_cmpR (op_neD hr.units) (pv 1) (pv 0) (nomark _))
       (pss_one (ps_ret pe_bl))
       pss_nil)
       (pss_cons (ps_if (pt_not (pt_val (pe_call (ok_law_good T) (hr.mono (by decide)) rfl T.m_law_good T.F_law_good.kp T.b_law_good .nil pass0 (pa_cons (pv 0) pa_nil))))
       (pss_one (ps_ret (pe_cmp (pc_isN (pv 2)) rfl)))
       pss_nil)
       (C8.pss_cut (ps_if (PW.pt (pw_or (pt_not (pt_val (pe_callB (call_isi) (by rfl) T.n_isinstance (by decide +kernel) (pa_cons (pv 2) (pa_cons (pe_bltn (v := .ty "tuple") (by rfl) T.n_tuple (by decide +kernel) rfl) pa_nil))))) (pw_or (pt_cmpR op_ne (pe_callB (c_len) (by rfl) T.n_len (by decide +kernel) (pa_cons (pv 2) pa_nil)) pe_int (nomark _)) (pw_or1 (pt_not (pt_val (pe_callB (call_isi) (by rfl) T.n_isinstance (by decide +kernel) (pa_cons (pe_ix ix_tup (pv 2) pe_int (fun _ _ => rfl)) (pa_cons (pe_bltn (v := .ty "str") (by rfl) T.n_str (by decide +kernel) rfl) pa_nil)))))))))
       (pss_one (ps_ret pe_bl))
       pss_nil)
       (pss_one (ps_ret (pe_and (pe_call (ok_law_is_integer T) (hr.mono (by decide)) rfl T.m_law_is_integer T.F_law_is_integer.kp T.b_law_is_integer .nil pass0 (pa_cons (pe_ix ix_tup (pv 2) pe_int (fun _ _ => rfl)) pa_nil)) (pe_one (pe_cmpR (op_eqD hr.units) (pe_call (ok_encode_entry T) (hr.mono (by decide)) rfl T.m_encode_entry T.F_encode_entry.kp T.b_encode_entry .nil pass0 (pa_cons (pe_ix ix_tup (pv 2) pe_int (fun _ _ => rfl)) (pa_cons (pe_ix ix_tup (pv 2) pe_int (fun _ _ => rfl)) pa_nil))) (pv 0) (nomark _))))))))))), ?_⟩
    try dsimp only [cxOf, Cx.nox, Cx.wish]
    obtain ⟨a, ns, rfl, h, hl, hb, q⟩ := h
    walk_at "go"
    case q2 =>
      intro hd H2 s2
      rename_i p np H1 s1 hp
      have h2 := (s1.trans s2).seq h
      have hp2 := s2 _ _ hp
      walk_at "go"
      refine r_ned (Dp.ints (.of hp2)) (Dp.ints h2) (Fl.intlS _) (Fl.intlS _) ?_
      rw [(Fl.intl ns).self]
      walk_at "go"
      case q1 =>
        intro hg
        obtain ⟨z, n, e⟩ := (good_dec hl hb).mp hg
        rw [hd] at e; cases e
      case q2 =>
        intro hg H3 s3
        walk_at "go"
        exact q _ (s1.trans (s2.trans s3))
    case q1 =>
      intro H2 pt z n hd s2 hpt
      rename_i p np H1 s1 hp
      have h2 := (s1.trans s2).seq h
      have hp2 := s2 _ _ hp
      walk_at "go"
      refine r_ned (Dp.ints (.of hp2)) (Dp.ints h2) (Fl.intlS _) (Fl.intlS _) ?_
      rw [(Fl.intl ns).self]
      walk_at "go"
      case q2 =>
        intro hg
        exact absurd ((good_dec hl hb).mpr ⟨z, n, hd⟩) hg
      case q1 =>
        intro hg H3 s3
        have hpt3 := s3 _ _ hpt
        have h3 := s3.seq h2
        have he : ns = encE z n ∧ z.length ≤ 28 := by
          unfold decE at hd
          split at hd
          · cases hd
          · rename_i c
            simp only [not_or] at c
            obtain ⟨c1, c2, c3, c4⟩ := c
            cases hd
            exact ⟨Decidable.not_not.mp c4, (isNm_iff.mp (by simpa using c3)).2.1⟩
        obtain ⟨he, zl⟩ := he
        walk_at "go"
        refine r_cut (fun σ' H' => σ' = [some (.ref a), some (.ref p), some (.ref pt)] ∧ H3 = H') ?_ ?_
        · walk_at "go"
          exact ⟨rfl, rfl⟩
        rintro _ _ ⟨rfl, rfl⟩
        walk_at "go"
        rename_i H4 l4 s4 n4 g4
        rw [← he] at g4
        refine r_eqI (.of g4) (s4.seq h3) ?_
        exact q _ (s1.trans (s2.trans (s3.trans s4)))
def sp_law_names (K : PySem.W.Frag) : Sp := fun args_ H Q _ => ∃ (n : Int), args_ = [.int n] ∧ 0 ≤ n ∧ ∀ H', Same H H' → Q (.bl true) H'
theorem i_law_names {K : PySem.W.Frag} {args_ : List V} {H : Hp} {Q : V → Hp → Prop} {E : XK} {n : Int} (ev : args_ = [.int n]) (n0 : 0 ≤ n) (q : ∀ H', Same H H' → Q (.bl true) H') : sp_law_names K args_ H Q E := ⟨n, ev, n0, q⟩
local macro_rules | `(tactic| walk_at "ca1") => `(tactic| with_reducible (refine' Sg.i_law_names ?ev ?n0 ?_; (case ev => (with_unfolding_all rfl)); (case n0 => (with_unfolding_all walk_at "pr")); intros))

theorem ok_law_names (T : Txt K mg) : FnOk P w K mg base CX0 4 T.a_law_names T.fd_law_names ["number"] (sp_law_names K) := by
  refine T.F_law_names.ok sc_law_names (fun vs H Q E h => ?_) (fun cdv A outer s H vs Q E hr h => ?_)
  · obtain ⟨n, rfl, _⟩ := h
    rfl
  · refine ⟨_, (pss_cons (ps_set (i := 1) sc_law_names.nd rfl (Or.inl rfl) (pe_call (ok_law_text T) (hr.mono (by decide)) rfl T.m_law_text T.F_law_text.kp T.b_law_text .nil pass0 (pa_cons (pe_op op_fdiv (pe_callTy c_int (by rfl) T.n_int (by decide +kernel) (pa_cons (pv 0) pa_nil)) pe_int) (pa_cons (pe_op op_mod (pe_callTy c_int (by rfl) T.n_int (by decide +kernel) (pa_cons (pv 0) pa_nil)) pe_int) pa_nil))))
       (C8.pss_cut (ps_set (i := 2) sc_law_names.nd rfl (Or.inl rfl) (pe_and (pe_cmpR op_le pe_int (pe_callB (c_lenS) (by rfl) T.n_len (by decide +kernel) (pa_cons (pv 1) pa_nil)) (nomark _)) (pe_and (pe_cmpR op_le (pe_callB (c_lenS) (by rfl) T.n_len (by decide +kernel) (pa_cons (pv 1) pa_nil)) pe_int (nomark _)) (pe_and (pe_cmpR op_notIn_sign pe_str (pv 1) (by with_unfolding_all rfl)) (pe_and (pe_cmpR op_ne (pv 1) pe_str (nomark _)) (pe_one (pe_cmpR op_ne (pv 1) pe_str (nomark _))))))))
       (C8.pss_cut (ps_if (PW.pt (pw_or (pt_not (pt_val (pe_call (ok_law_is T) (hr.mono (by decide)) rfl T.m_law_is T.F_law_is.kp T.b_law_is .nil pass0 (pa_cons (pe_call (ok_is_name T) (hr.mono (by decide)) rfl T.m_is_name T.F_is_name.kp T.b_is_name .nil pass0 (pa_cons (pv 1) pa_nil)) (pa_cons (pv 2) pa_nil))))) (pw_or (pt_val (pe_call (ok_is_name T) (hr.mono (by decide)) rfl T.m_is_name T.F_is_name.kp T.b_is_name .nil pass0 (pa_cons pe_str pa_nil))) (pw_or (pt_val (pe_call (ok_is_name T) (hr.mono (by decide)) rfl T.m_is_name T.F_is_name.kp T.b_is_name .nil pass0 (pa_cons pe_str pa_nil))) (pw_or (pt_val (pe_call (ok_is_name T) (hr.mono (by decide)) rfl T.m_is_name T.F_is_name.kp T.b_is_name .nil pass0 (pa_cons pe_str pa_nil))) (pw_or1 (pt_val (pe_call (ok_is_name T) (hr.mono (by decide)) rfl T.m_is_name T.F_is_name.kp T.b_is_name .nil pass0 (pa_cons pe_str pa_nil)))))))))
       (pss_one (ps_ret pe_bl))
       pss_nil)
       (C8.pss_cut (ps_if (PW.pt (pw_or (pt_val (pe_call (ok_is_name T) (hr.mono (by decide)) rfl T.m_is_name T.F_is_name.kp T.b_is_name .nil pass0 (pa_cons pe_str pa_nil))) (pw_or (pt_val (pe_call (ok_is_name T) (hr.mono (by decide)) rfl T.m_is_name T.F_is_name.kp T.b_is_name .nil pass0 (pa_cons pe_str pa_nil))) (pw_or1 (pt_val (pe_call (ok_is_name T) (hr.mono (by decide)) rfl T.m_is_name T.F_is_name.kp T.b_is_name .nil pass0 (pa_cons (pe_op op_mulS pe_str pe_int) pa_nil)))))))
       (pss_one (ps_ret pe_bl))
       pss_nil)
       (pss_one (ps_ret (pe_and (pe_cmpR op_isBl (pe_call (ok_is_name T) (hr.mono (by decide)) rfl T.m_is_name T.F_is_name.kp T.b_is_name .nil pass0 (pa_cons (pe_op op_mulS pe_str pe_int) pa_nil)) pe_bl (nomark _)) (pe_and (pe_cmpR op_isBl (pe_call (ok_is_name T) (hr.mono (by decide)) rfl T.m_is_name T.F_is_name.kp T.b_is_name .nil pass0 (pa_cons pe_str pa_nil)) pe_bl (nomark _)) (pe_one (pe_cmpR op_isBl (pe_call (ok_is_name T) (hr.mono (by decide)) rfl T.m_is_name T.F_is_name.kp T.b_is_name .nil pass0 (pa_cons pe_str pa_nil)) pe_bl (nomark _))))))))))), ?_⟩
    try dsimp only [cxOf, Cx.nox, Cx.wish]
    obtain ⟨n, rfl, n0, q⟩ := h
    walk_at "go"
    rename_i z hz hg
    have zl : z.length ≤ 30 := by omega
    have no : (¬ (1 ≤ z.length ∧ z.length ≤ 28 ∧ 47 ∉ z.cps.toList ∧ z ≠ "." ∧ z ≠ "..")) → isNm z = false := fun h => Bool.eq_false_iff.mpr fun e => by
      obtain ⟨a, b, _, c⟩ := isNm_iff.mp e
      exact h ⟨a, b, c⟩
    refine r_cut (fun σ' H' => σ' = [some (.int n), some (.str z), some (.bl (isNm z))] ∧ H = H') ?_ ?_
    · walk_at "go"
      refine r_ite (fun c1 => ?_) (fun c1 => ?_)
      case refine_2 =>
        rw [no (fun ⟨z1, _⟩ => c1 (by omega))]
        walk_at "go"
        exact ⟨rfl, rfl⟩
      walk_at "go"
      refine r_ite (fun c2 => ?_) (fun c2 => ?_)
      case refine_2 =>
        rw [no (fun ⟨_, z1, _⟩ => c2 (by omega))]
        walk_at "go"
        exact ⟨rfl, rfl⟩
      walk_at "go"
      refine ⟨47, z, rfl, rfl, ?_⟩
      walk_at "go"
      refine r_iteN (fun c3 => ?_) (fun c3 => ?_)
      case refine_2 =>
        rw [no (fun ⟨_, _, z1, _⟩ => z1 c3)]
        walk_at "go"
        exact ⟨rfl, rfl⟩
      walk_at "go"
      refine r_iteN (fun c4 => ?_) (fun c4 => ?_)
      case refine_2 =>
        rw [no (fun ⟨_, _, _, z1, _⟩ => z1 c4)]
        walk_at "go"
        exact ⟨rfl, rfl⟩
      walk_at "go"
      by_cases c5 : z = ".."
      · rw [no (fun ⟨_, _, _, _, z1⟩ => z1 c5), decide_eq_true c5]
        exact ⟨rfl, rfl⟩
      · rw [isNm_iff.mpr ⟨by omega, by omega, hg, c3, c4, c5⟩, decide_eq_false c5]
        exact ⟨rfl, rfl⟩
    rintro _ _ ⟨rfl, rfl⟩
    refine r_cut (fun σ' H' => σ' = [some (.int n), some (.str z), some (.bl (isNm z))] ∧ Same H H') ?_ ?_
    · walk_at "go"
      exact ⟨rfl, by walk_at "sm"⟩
    rintro _ H1 ⟨rfl, s1⟩
    refine r_cut (fun σ' H' => σ' = [some (.int n), some (.str z), some (.bl (isNm z))] ∧ Same H1 H') ?_ ?_
    · walk_at "go"
      refine r_mulS (by decide) (by decide) ?hl ?_
      case hl => decide +kernel
      walk_at "go"
      exact ⟨rfl, by walk_at "sm"⟩
    rintro _ H2 ⟨rfl, s2⟩
    walk_at "go"
    refine r_mulS (by decide) (by decide) ?hl ?_
    case hl => decide +kernel
    walk_at "go"
    refine q _ (s1.trans (s2.trans ?_))
    walk_at "sm"
theorem at5 {c i : Int} (h0 : 0 ≤ i) (h1 : i < 5) (c0 : 1 ≤ c) (c1 : c ≤ 65535) : ∃ t : Int, 1 ≤ t ∧ t ≤ 65535 ∧ atI [V.int 1, V.int 255, V.int 256, V.int 65535, V.int c] i = some (.int t) := by
  have : i = 0 ∨ i = 1 ∨ i = 2 ∨ i = 3 ∨ i = 4 := by omega
  rcases this with rfl | rfl | rfl | rfl | rfl
  · exact ⟨1, by decide, by decide, rfl⟩
  · exact ⟨255, by decide, by decide, rfl⟩
  · exact ⟨256, by decide, by decide, rfl⟩
  · exact ⟨65535, by decide, by decide, rfl⟩
  · exact ⟨c, c0, c1, rfl⟩
theorem at5i {a b c d e i : Int} (h0 : 0 ≤ i) (h1 : i < 5) : ∃ t : Int, atI [V.int a, V.int b, V.int c, V.int d, V.int e] i = some (.int t) := by
  have : i = 0 ∨ i = 1 ∨ i = 2 ∨ i = 3 ∨ i = 4 := by omega
  rcases this with rfl | rfl | rfl | rfl | rfl <;> exact ⟨_, rfl⟩
theorem at12 {c i : Int} (h0 : 0 ≤ i) (h1 : i < 12) (c0 : 0 ≤ c) (c1 : c < 256) : ∃ t : Int, 0 ≤ t ∧ t < 256 ∧ atI [V.int 0, V.int 1, V.int 28, V.int 29, V.int 31, V.int 32, V.int 37, V.int 46, V.int 47, V.int 126, V.int 127, V.int c] i = some (.int t) := by
  have : i = 0 ∨ i = 1 ∨ i = 2 ∨ i = 3 ∨ i = 4 ∨ i = 5 ∨ i = 6 ∨ i = 7 ∨ i = 8 ∨ i = 9 ∨ i = 10 ∨ i = 11 := by omega
  rcases this with rfl | rfl | rfl | rfl | rfl | rfl | rfl | rfl | rfl | rfl | rfl | rfl
  all_goals first
    | exact ⟨c, c0, c1, rfl⟩
    | exact ⟨_, by decide, by decide, rfl⟩
/-- 32 octets -/
def Oct (ns : List Int) : Prop := ns.length = 32 ∧ ∀ x ∈ ns, 0 ≤ x ∧ x < 256
theorem Oct.set {ns : List Int} (h : Oct ns) (k : Nat) {v : Int} (h0 : 0 ≤ v) (h1 : v < 256) : Oct (ns.set k v) := ⟨by rw [List.length_set]; exact h.1, fun x hx => by
  rcases List.mem_or_eq_of_mem_set hx with z | z
  · exact h.2 x z
  · rw [z]; exact ⟨h0, h1⟩⟩
def spLaw (K : PySem.W.Frag) : Sp := fun vs H Q _ => ∃ (a : Addr) (ns : List Int), vs = [.ref a] ∧ SqL K H a (ns.map V.int) ∧ ns.length ≤ 63 ∧ ∀ H', Q (.bl true) H'
theorem ok_law (T : Txt K mg) : FnOk P w K mg base CX0 6 T.a_law T.fd_law ["script"] (spLaw K) := by
  refine T.F_law.ok sc_law (fun vs H Q E h => ?_) (fun cdv A outer s H vs Q E hr h => ?_)
  · obtain ⟨a, ns, rfl, _⟩ := h
    rfl
  · refine ⟨_, (pss_cons (ps_if (pt_cmpR (op_neD hr.units) (pe_lst (pa_cons (pe_glob rfl T.c_ENTRY_OCTETS T.r_ENTRY_OCTETS) (pa_cons (pe_glob rfl T.c_MOST_SIGNS T.r_MOST_SIGNS) pa_nil))) (pe_lst (pa_cons pe_int (pa_cons pe_int pa_nil))) (nomark _))
       (pss_one (ps_ret pe_bl))
       pss_nil)
       (pss_cons (ps_set (i := 1) sc_law.nd rfl (Or.inl rfl) (pe_call (ok_law_name T) (hr.mono (by decide)) rfl T.m_law_name T.F_law_name.kp T.b_law_name .nil pass0 (pa_cons (pe_call (ok_law_row T) (hr.mono (by decide)) rfl T.m_law_row T.F_law_row.kp T.b_law_row .nil pass0 (pa_cons (pv 0) (pa_cons pe_int pa_nil))) pa_nil)))
       (pss_cons (ps_set (i := 2) sc_law.nd rfl (Or.inr rfl) (pe_callTy c_int (by rfl) T.n_int (by decide +kernel) (pa_cons (pe_call (ok_law_row T) (hr.mono (by decide)) rfl T.m_law_row T.F_law_row.kp T.b_law_row .nil pass0 (pa_cons (pv 0) (pa_cons pe_int pa_nil))) pa_nil)))
       (pss_cons (ps_set (i := 3) sc_law.nd rfl (Or.inl rfl) (pe_ix ix_list (pe_lst (pa_cons pe_int (pa_cons pe_int (pa_cons pe_int (pa_cons pe_int (pa_cons (pe_op op_add pe_int (pe_op op_mod (pe_op op_fdiv (pv 2) pe_int) pe_int)) pa_nil)))))) (pe_op op_mod (pv 2) pe_int) (fun _ _ => rfl)))
       (pss_cons (ps_set (i := 4) sc_law.nd rfl (Or.inl rfl) (pe_call (ok_encode_entry T) (hr.mono (by decide)) rfl T.m_encode_entry T.F_encode_entry.kp T.b_encode_entry .nil pass0 (pa_cons (pv 1) (pa_cons (pv 3) pa_nil))))
       (C8.pss_cut (ps_if (PW.pt (pw_or (pt_not (pt_val (pe_callB (call_isi) (by rfl) T.n_isinstance (by decide +kernel) (pa_cons (pv 4) (pa_cons (pe_bltn (v := .ty "list") (by rfl) T.n_list (by decide +kernel) rfl) pa_nil))))) (pw_or (pt_cmpR (op_neD hr.units) (pv 4) (pe_call (ok_law_octets T) (hr.mono (by decide)) rfl T.m_law_octets T.F_law_octets.kp T.b_law_octets .nil pass0 (pa_cons (pv 1) (pa_cons (pv 3) pa_nil))) (nomark _)) (pw_or1 (pt_cmpR op_notBl (pe_call (ok_is_name T) (hr.mono (by decide)) rfl T.m_is_name T.F_is_name.kp T.b_is_name .nil pass0 (pa_cons (pv 1) pa_nil)) pe_bl (nomark _))))))
       (pss_one (ps_ret pe_bl))
       pss_nil)
       (pss_cons (ps_if (pt_cmpR (op_neD hr.units) (pe_call (ok_decode_entry T) (hr.mono (by decide)) rfl T.m_decode_entry T.F_decode_entry.kp T.b_decode_entry .nil pass0 (pa_cons (pv 4) pa_nil)) (pe_tup (pa_cons (pv 1) (pa_cons (pv 3) pa_nil))) (nomark _))
       (pss_one (ps_ret pe_bl))
       pss_nil)
       (pss_cons (ps_set (i := 2) sc_law.nd rfl (Or.inr rfl) (pe_callTy c_int (by rfl) T.n_int (by decide +kernel) (pa_cons (pe_call (ok_law_row T) (hr.mono (by decide)) rfl T.m_law_row T.F_law_row.kp T.b_law_row .nil pass0 (pa_cons (pv 0) (pa_cons pe_int pa_nil))) pa_nil)))
       (pss_cons (ps_set (i := 5) sc_law.nd rfl (Or.inl rfl) (pe_callTy c_list (by rfl) T.n_list (by decide +kernel) (pa_cons (pv 4) pa_nil)))
       (pss_cons (ps_set (i := 6) sc_law.nd rfl (Or.inl rfl) (pe_ix ix_list (pe_lst (pa_cons (pe_op op_mod (pe_op op_fdiv (pv 2) pe_int) pe_int) (pa_cons pe_int (pa_cons (pe_op op_add pe_int (pe_callB (c_lenS) (by rfl) T.n_len (by decide +kernel) (pa_cons (pv 1) pa_nil))) (pa_cons (pe_op op_mod (pe_op op_fdiv (pv 2) pe_int) pe_int) (pa_cons (pe_callB (c_min2 rfl) (by rfl) T.n_min (by decide +kernel) (pa_cons pe_int (pa_cons (pe_op op_add pe_int (pe_callB (c_lenS) (by rfl) T.n_len (by decide +kernel) (pa_cons (pv 1) pa_nil))) pa_nil))) pa_nil)))))) (pe_op op_mod (pv 2) pe_int) (fun _ _ => rfl)))
       (pss_cons (ps_asg (pe_ix ix_list (pe_lst (pa_cons pe_int (pa_cons pe_int (pa_cons pe_int (pa_cons pe_int (pa_cons pe_int (pa_cons pe_int (pa_cons pe_int (pa_cons pe_int (pa_cons pe_int (pa_cons pe_int (pa_cons pe_int (pa_cons (pe_op op_mod (pe_op op_fdiv (pv 2) pe_int) pe_int) pa_nil))))))))))))) (pe_op op_mod (pe_op op_fdiv (pv 2) pe_int) pe_int) (fun _ _ => rfl)) (pg_sub (pv 5) (pe_op op_mod (pv 6) pe_int) set_list))
       (C8.pss_cut (ps_if (PW.pt (pw_or (pt_not (pt_val (pe_call (ok_law_reads T) (hr.mono (by decide)) rfl T.m_law_reads T.F_law_reads.kp T.b_law_reads .nil pass0 (pa_cons (pv 4) pa_nil)))) (pw_or (pt_not (pt_val (pe_call (ok_law_reads T) (hr.mono (by decide)) rfl T.m_law_reads T.F_law_reads.kp T.b_law_reads .nil pass0 (pa_cons (pv 5) pa_nil)))) (pw_or1 (pt_not (pt_val (pe_call (ok_law_reads T) (hr.mono (by decide)) rfl T.m_law_reads T.F_law_reads.kp T.b_law_reads .nil pass0 (pa_cons (pe_op op_rep (pe_lst (pa_cons pe_int pa_nil)) pe_int) pa_nil))))))))
       (pss_one (ps_ret pe_bl))
       pss_nil)
       (pss_cons (ps_asg (pe_op op_mod (pe_op op_fdiv (pv 2) pe_int) pe_int) (pg_sub (pv 5) (pe_op op_mod (pe_op op_fdiv (pv 2) pe_int) pe_int) set_list))
       (pss_cons (ps_if (pt_not (pt_val (pe_call (ok_law_reads T) (hr.mono (by decide)) rfl T.m_law_reads T.F_law_reads.kp T.b_law_reads .nil pass0 (pa_cons (pv 5) pa_nil))))
       (pss_one (ps_ret pe_bl))
       pss_nil)
       (pss_cons (ps_set (i := 5) sc_law.nd rfl (Or.inl rfl) (pe_op op_cat (pe_lst (pa_cons (pe_op op_mod (pv 2) pe_int) (pa_cons (pe_op op_mod (pe_op op_fdiv (pv 2) pe_int) pe_int) (pa_cons (pe_op op_mod (pe_op op_fdiv (pv 2) pe_int) pe_int) pa_nil)))) (pe_lc (own := [("k", 7)]) (g := gName 7) (tt := tYes) rfl sc_law.nd (pi_range1 rfl T.n_range (pa_cons pe_int pa_nil)) (blkOk_by (own := [("k", 7)]) (N := n_law) (sc := defScope s_law) (by decide +kernel)) (fun _ _ _ _ _ => pg_name (i := 7) sc_law.nd rfl (Or.inl rfl)) (fun _ _ _ _ _ => pts_nil) (fun _ _ _ _ _ => (pe_op op_add pe_int (pe_op op_mod (pe_op op_fdiv (pv 2) (pe_op op_add pe_int (pv 7))) pe_int))))))
       (pss_cons (ps_for PassesOwn.never rfl (pi_range2 rfl T.n_range (pa_cons (pe_ix ix_list (pv 5) pe_int (fun _ _ => rfl)) (pa_cons pe_int pa_nil))) (pg_name (i := 7) sc_law.nd rfl (Or.inl rfl))
       (pss_one (ps_asg pe_int (pg_sub (pv 5) (pe_op op_add pe_int (pv 7)) set_list))))
       (C8.pss_cut (ps_if (pt_cmpR op_eq (pe_op op_mod (pe_op op_fdiv (pv 2) pe_int) pe_int) pe_int (nomark _))
       (pss_cons (ps_asg (pe_op op_add pe_int (pe_op op_mod (pe_op op_fdiv (pv 2) pe_int) pe_int)) (pg_sub (pv 5) pe_int set_list))
       (pss_one (ps_asg (pe_op op_cat (pe_lst (pa_cons pe_int (pa_cons (pe_op op_mul pe_int (pe_op op_sub (pe_ix ix_list (pv 5) pe_int (fun _ _ => rfl)) pe_int)) pa_nil))) (pe_op op_rep (pe_lst (pa_cons pe_int pa_nil)) pe_int)) (pg_sls (pv 5) (po_some pe_int) po_none))))
       pss_nil)
       (pss_one (ps_ret (pe_and (pe_call (ok_law_reads T) (hr.mono (by decide)) rfl T.m_law_reads T.F_law_reads.kp T.b_law_reads .nil pass0 (pa_cons (pv 5) pa_nil)) (pe_one (pe_call (ok_law_names T) (hr.mono (by decide)) rfl T.m_law_names T.F_law_names.kp T.b_law_names .nil pass0 (pa_cons (pe_call (ok_law_row T) (hr.mono (by decide)) rfl T.m_law_row T.F_law_row.kp T.b_law_row .nil pass0 (pa_cons (pv 0) (pa_cons pe_int pa_nil))) pa_nil))))))))))))))))))))))), ?_⟩
    try dsimp only [cxOf, Cx.nox, Cx.wish]
    obtain ⟨a, ns, rfl, hS, h63, q⟩ := h
    walk_at "go"
    rename_i l1 n1 H1 s1 g1 l2 n2 H2 s2 g2
    refine r_neI (ns := [32, 28]) (.of (s2 _ _ g1)) (.of g2) ?_
    have S2 : Same H H2 := s1.trans s2
    have hS2 := S2.seq hS
    walk_at "go"
    rename_i z1 z10 H3 nm s3 hnm num num0 b5 hb5 b50 b51 p4 np4 H4 s4 g4 j hj j0 j1
    obtain ⟨tg, t0, t1, hat⟩ := at5 (c := 1 + b5) j0 j1 (by omega) (by omega)
    refine r_ixl (.inl (.inl g4)) hat ?_
    obtain ⟨nl1, nl, hg, _⟩ := isNm_iff.mp hnm
    obtain ⟨hdec, hbyte⟩ := encE_good hnm t0 t1
    have he32 := encE_len nm tg
    have S4 : Same H2 H4 := s3.trans s4
    clear hat g4 hj j0 j1 hb5
    walk_at "go"
    rename_i H5 lo s5 n5 g5
    have hS5 := (S4.trans s5).seq hS2
    refine r_cut (fun σ' H' => σ' = [some (.ref a), some (.str nm), some (.int num), some (.int tg), some (.ref lo), none, none, none] ∧ Same H5 H') ?_ ?_
    · walk_at "go"
      rename_i H6 l6 s6 n6 g6
      refine r_neI (.of (s6 _ _ g5)) (.of g6) ?_
      walk_at "go"
      exact ⟨rfl, by walk_at "sm"⟩
    rintro _ H6 ⟨rfl, s6⟩
    have g56 := s6 _ _ g5
    have hS6 := s6.seq hS5
    walk_at "go"
    case q2 =>
      intro hd
      rw [hdec] at hd
      cases hd
    intro H7 pt z n hd s7 hpt
    rw [hdec] at hd
    cases hd
    walk_at "go"
    rename_i p8 np8 H8 s8 g8
    have ft : Fl 1 (.tuple [.str nm, .int tg]) := Fl.tup (Fl.cons ⟨strOk_good hg, by simp [PyData.depth]⟩ (Fl.cons (Fl.int _ _) Fl.nil))
    refine r_ned (d := .tuple [.str nm, .int tg]) (e := .tuple [.str nm, .int tg]) (.tup (.of (s8 _ _ hpt)) (.cons (.str _) (.cons (.int _) .nil))) (.tup (.of g8) (.cons (.str _) (.cons (.int _) .nil))) ft.shaped ft.shaped ?_
    rw [ft.self]
    have g58 := (s7.trans s8) _ _ g56
    have hS8 := (s7.trans s8).seq hS6
    clear ft g8 hpt np8 s8 s7 g56 s6 n5
    walk_at "go"
    rename_i num2 num20 lr nr H9 s9 g9 b1 hb1 b10 b11 b2 hb2 b20 b21 m1 m11 m12 m13 p10 np10 H10 s10 g10 j hj j0 j1
    obtain ⟨at', hat⟩ := at5i (a := _) (b := _) (c := _) (d := _) (e := _) j0 j1
    refine r_ixl (.inl (.inl g10)) hat ?_
    clear hat g10 j0 j1 hj
    walk_at "go"
    rename_i b3 hb3 b30 b31 p11 np11 H11 s11 g11 j hj j0 j1
    obtain ⟨v, v0, v1, hat⟩ := at12 j0 j1 b30 b31
    refine r_ixl (.inl (.inl g11)) hat ?_
    clear hat g11 j0 j1 hj
    walk_at "go"
    rename_i k hk k0 k1
    have S811 : Same H9 H11 := s10.trans s11
    refine r_setl (S811 _ _ g9) (ixN_ok k0 (by rw [List.length_map, he32]; exact k1)) ?_
    rw [set_ints]
    generalize hH : upd _ _ _ = H12
    have s12 : Same H8 H12 := Same.old (s9.trans S811) nr hH
    have g12 := at_new hH
    have o12 : Oct ((encE nm tg).set k.toNat v) := Oct.set ⟨he32, hbyte⟩ _ v0 v1
    generalize (encE nm tg).set k.toNat v = row at g12 o12
    clear hH hk k0 k1 k S811 s10 s11 g9
    have g512 := s12 _ _ g58
    have hS12 := s12.seq hS8
    obtain ⟨o1, o2⟩ := id o12
    refine r_cut (fun σ' H' => σ' = [some (.ref a), some (.str nm), some (.int num2), some (.int tg), some (.ref lo), some (.ref lr), some (.int at'), none] ∧ Same H12 H') ?_ ?_
    · walk_at "go"
      rename_i H13 s13 H14 s14 p15 np15 H15 s15 g15 p16 np16 H16 s16 g16
      refine i_law_reads rfl (ns := List.replicate 32 0) (.inl (.inl (by rw [g16, List.map_replicate]; rfl))) (by decide) (fun x hx => ?_) fun H17 s17 => ?_
      · cases List.eq_of_mem_replicate hx
        exact ⟨Int.le_refl 0, by decide⟩
      walk_at "go"
      exact ⟨rfl, s13.trans (s14.trans (s15.trans (s16.trans s17)))⟩
    rintro _ H13 ⟨rfl, s13⟩
    have g13 := s13 _ _ g12
    walk_at "go"
    rename_i v2 hv2 v20 v21 k hk k0 k1
    refine r_setl g13 (ixN_ok k0 (by rw [List.length_map, o1]; exact k1)) ?_
    rw [set_ints]
    generalize hH : upd _ _ _ = H14
    have g14 := at_new hH
    have o14 : Oct (row.set k.toNat v2) := Oct.set o12 _ v20 (by omega)
    have hS14 : SqL K H14 a (ns.map V.int) := (Same.old (s12.trans s13) nr hH).seq hS8
    generalize row.set k.toNat v2 = row2 at g14 o14
    clear g13 g512 g12 hS12 o1 o2 o12 s13 hH hk k0 k1 k v20 v21
    obtain ⟨o1, o2⟩ := o14
    walk_at "go"
    rename_i H15 s15 c1 hc1 c10 c11 c2 hc2 c20 c21 c3 hc3 c30 c31 l16 n16 H16 s16 g16
    refine r_lcI (fun i z => 0 ≤ z ∧ z < 256) (by omega) rfl ?_ ?_
    · intro i H' hi s R hR
      walk_at "go"
      exact hR _ ⟨by omega, by omega⟩
    intro H17 l17 zs s17 n17 g17 el hz
    walk_at "go"
    rename_i p18 np18 H18 s18 g18
    rw [show [V.int c1, V.int c2, V.int c3] ++ zs.map V.int = ([c1, c2, c3] ++ zs).map V.int from by rw [List.map_append]; rfl] at g18
    have o18 : Oct ([c1, c2, c3] ++ zs) := by
      refine ⟨by rw [List.length_append, el]; rfl, fun x hx => ?_⟩
      rcases List.mem_append.mp hx with y | y
      · simp only [List.mem_cons, List.not_mem_nil, or_false] at y
        rcases y with rfl | rfl | rfl <;> exact ⟨by omega, by omega⟩
      · obtain ⟨i, hi, e⟩ := List.getElem_of_mem y
        exact hz i x (by rw [List.getElem?_eq_getElem hi, e])
    refine r_ixl (.inl (.inl g18)) (at_ints (by decide) (by rw [o18.1]; decide)) ?_
    rw [show ([c1, c2, c3] ++ zs).getD (Int.toNat 2) 0 = c3 from rfl]
    have hS17 := (s15.trans (s16.trans s17)).seq hS14
    generalize [c1, c2, c3] ++ zs = rs0 at g18 o18
    clear g17 hz el g16 hc1 hc2 hc3 g14 s16
    walk_at "go"
    refine r_forR (fun i σ' H' => ∃ (rs : List Int) (v7 : Option V), σ' = [some (.ref a), some (.str nm), some (.int num2), some (.int tg), some (.ref lo), some (.ref p18), some (.int at'), v7] ∧ Same H17 H' ∧ H' p18 = some (.lst (rs.map V.int)) ∧ Oct rs) ⟨rs0, _, rfl, s18, g18, o18⟩ ?_ ?_
    · rintro i σ' H' hi ⟨rs, v7, rfl, s, g, o⟩
      walk_at "go"
      refine r_setl g (ixN_ok (by omega) (by rw [List.length_map, o.1]; omega)) ?_
      rw [set_ints]
      generalize hH : upd _ _ _ = Hy
      exact ⟨_, _, rfl, Same.old s np18 hH, Sg.at_new hH, o.set _ (Int.le_refl 0) (by decide)⟩
    rintro σ' H19 ⟨rs, v7, rfl, s19, g19, o19⟩
    refine r_cut (fun σ' H' => ∃ (rs : List Int) (v7 : Option V), σ' = [some (.ref a), some (.str nm), some (.int num2), some (.int tg), some (.ref lo), some (.ref p18), some (.int at'), v7] ∧ Same H17 H' ∧ H' p18 = some (.lst (rs.map V.int)) ∧ Oct rs) ?_ ?_
    · walk_at "go"
      refine r_ite (fun _ => ?_) (fun _ => ?_)
      case refine_2 =>
        walk_at "go"
        exact ⟨rs, v7, rfl, s19, g19, o19⟩
      walk_at "go"
      rename_i b hb b0 b1
      refine r_setl g19 (ixN_ok (by decide) (by rw [List.length_map, o19.1]; decide)) ?_
      rw [set_ints]
      generalize hH : upd _ _ _ = H20
      have g20 := Sg.at_new hH
      have s20 : Same H17 H20 := Same.old s19 np18 hH
      have o20 : Oct (rs.set (Int.toNat 2) (1 + b)) := o19.set _ (by omega) (by omega)
      have e2 : (rs.set (Int.toNat 2) (1 + b)).getD (Int.toNat 2) 0 = 1 + b := by
        rw [List.getD_eq_getElem?_getD, List.getElem?_set_self (by rw [o19.1]; decide)]
        rfl
      generalize rs.set (Int.toNat 2) (1 + b) = rs2 at g20 o20 e2
      walk_at "go"
      refine r_ixl (.inl (.inl g20)) (at_ints (by decide) (by rw [o20.1]; decide)) ?_
      rw [e2]
      walk_at "go"
      rename_i pa na Ha sa ga pb nb Hb sb gb pc nc Hc sc gc pd nd Hd sd gd
      refine r_gsls ?_
      walk_at "go"
      have gh := (sa.trans (sb.trans (sc.trans sd))) _ _ g20
      have g3h := (sa.trans (sb.trans sc)) _ _ g20
      rw [show [V.int 46, V.int (46 * (1 + b - 1))] ++ List.replicate (Int.toNat 27) (V.int 0) = ([46, 46 * (1 + b - 1)] ++ List.replicate 27 0).map V.int from by rw [List.map_append, List.map_replicate]; rfl] at gd
      obtain ⟨Y, hY⟩ : ∃ Y : List V, Y = (([46, 46 * (1 + b - 1)] ++ List.replicate 27 0 : List Int)).map V.int := ⟨_, rfl⟩
      have lY : Y.length = 29 := by rw [hY, List.length_map]; rfl
      rw [← hY] at gd
      have eY : (rs2.map V.int).take (cutA (rs2.map V.int).length (some 3)) ++ Y ++ (rs2.map V.int).drop (max (cutA (rs2.map V.int).length (some 3)) (cutC (rs2.map V.int).length none)) = (rs2.take 3 ++ ([46, 46 * (1 + b - 1)] ++ List.replicate 27 0 : List Int)).map V.int := by
        rw [List.length_map, o20.1, show cutA 32 (some 3) = 3 from by decide, show cutC 32 none = 32 from rfl, show max 3 32 = 32 from by decide, List.drop_of_length_le (by rw [List.length_map, o20.1]; exact Nat.le_refl _), List.append_nil, ← List.map_take, hY, ← List.map_append]
      refine ⟨p18, pd, rs2.map V.int, Y, rfl, rfl, fun z => ?_, gh, gd, ?_, ?_⟩
      · rw [← z, g3h] at nd; cases nd
      · rw [List.length_map, o20.1, lY, sz]
        decide
      rw [eY]
      generalize hH2 : upd Hd p18 _ = He
      refine ⟨_, v7, rfl, Same.old (s20.trans (sa.trans (sb.trans (sc.trans sd)))) np18 hH2, Sg.at_new hH2, ?_, fun x hx => ?_⟩
      · rw [List.length_append, List.length_take, o20.1]
        rfl
      · rcases List.mem_append.mp hx with y | y
        · exact o20.2 x (List.mem_of_mem_take y)
        · rcases List.mem_append.mp y with y | y
          · simp only [List.mem_cons, List.not_mem_nil, or_false] at y
            rcases y with rfl | rfl <;> exact ⟨by omega, by omega⟩
          · cases List.eq_of_mem_replicate y
            exact ⟨Int.le_refl 0, by decide⟩
    rintro _ H20 ⟨rs, v7, rfl, s20, g20, o20⟩
    obtain ⟨o1, o2⟩ := o20
    have hS20 := s20.seq hS17
    walk_at "go"
    exact q _
end
theorem all_mk {l : PySem.W.OpenLaw} {w : World} {K : PySem.W.Frag} {h : Heap} {mg : Str → Option Value} {fa f_number_octets f_number_of f_is_text f_octets_of f_text_of f_is_code f_filled f_is_name f_encode_entry f_decode_entry f_law_row f_law_is_integer f_law_char f_law_text f_law_name f_law_octets f_law_good f_law_reads f_law_is f_law_names f_law : Addr} (X : K.In h) (G : h.Ns mainGlobals mg) (hfa : mg "law" = some (.ref fa))
    {od_number_octets an_number_octets od_number_of an_number_of od_is_text an_is_text od_octets_of an_octets_of od_text_of an_text_of od_is_code an_is_code od_filled an_filled od_is_name an_is_name od_encode_entry an_encode_entry od_decode_entry an_decode_entry od_law_row an_law_row od_law_is_integer an_law_is_integer od_law_char an_law_char od_law_text an_law_text od_law_name an_law_name od_law_octets an_law_octets od_law_good an_law_good od_law_reads an_law_reads od_law_is an_law_is od_law_names an_law_names od_law an_law : Option Addr} {sl_number_octets sl_number_of sl_is_text sl_octets_of sl_text_of sl_is_code sl_filled sl_is_name sl_encode_entry sl_decode_entry sl_law_row sl_law_is_integer sl_law_char sl_law_text sl_law_name sl_law_octets sl_law_good sl_law_reads sl_law_is sl_law_names sl_law : Array (Option Value)} {oc_number_octets kV_number_octets dc_number_octets pm_number_octets cd_number_octets ct_number_octets oc_number_of kV_number_of dc_number_of pm_number_of cd_number_of ct_number_of oc_is_text kV_is_text dc_is_text pm_is_text cd_is_text ct_is_text oc_octets_of kV_octets_of dc_octets_of pm_octets_of cd_octets_of ct_octets_of oc_text_of kV_text_of dc_text_of pm_text_of cd_text_of ct_text_of oc_is_code kV_is_code dc_is_code pm_is_code cd_is_code ct_is_code oc_filled kV_filled dc_filled pm_filled cd_filled ct_filled oc_is_name kV_is_name dc_is_name pm_is_name cd_is_name ct_is_name oc_encode_entry kV_encode_entry dc_encode_entry pm_encode_entry cd_encode_entry ct_encode_entry oc_decode_entry kV_decode_entry dc_decode_entry pm_decode_entry cd_decode_entry ct_decode_entry oc_law_row kV_law_row dc_law_row pm_law_row cd_law_row ct_law_row oc_law_is_integer kV_law_is_integer dc_law_is_integer pm_law_is_integer cd_law_is_integer ct_law_is_integer oc_law_char kV_law_char dc_law_char pm_law_char cd_law_char ct_law_char oc_law_text kV_law_text dc_law_text pm_law_text cd_law_text ct_law_text oc_law_name kV_law_name dc_law_name pm_law_name cd_law_name ct_law_name oc_law_octets kV_law_octets dc_law_octets pm_law_octets cd_law_octets ct_law_octets oc_law_good kV_law_good dc_law_good pm_law_good cd_law_good ct_law_good oc_law_reads kV_law_reads dc_law_reads pm_law_reads cd_law_reads ct_law_reads oc_law_is kV_law_is dc_law_is pm_law_is cd_law_is ct_law_is oc_law_names kV_law_names dc_law_names pm_law_names cd_law_names ct_law_names oc_law kV_law dc_law pm_law cd_law ct_law : Value}
    {t_ENTRY_OCTETS t_FIRST_CODE t_LAST_CODE t_MOST_SIGNS t_NAME_START t_PERCENT t_SIGNS : Tok}
    (a_number_octets : PySem.W.nsIn K mainGlobals "number_octets" = some (some (.ref f_number_octets)))
    (l_number_octets : K.lookup f_number_octets = some ⟨oc_number_octets, od_number_octets, .func (PySem.W.fnOf "number_octets" "number_octets" (defArgs s_number_octets) (defBody s_number_octets) (defScope s_number_octets) .none kV_number_octets dc_number_octets pm_number_octets an_number_octets cd_number_octets ct_number_octets), sl_number_octets⟩)
    (c_number_octets : PySem.W.codeIn K cd_number_octets "number_octets" = true)
    (k_number_octets : PySem.W.keepIn K (.ref f_number_octets) = true)
    (a_number_of : PySem.W.nsIn K mainGlobals "number_of" = some (some (.ref f_number_of)))
    (l_number_of : K.lookup f_number_of = some ⟨oc_number_of, od_number_of, .func (PySem.W.fnOf "number_of" "number_of" (defArgs s_number_of) (defBody s_number_of) (defScope s_number_of) .none kV_number_of dc_number_of pm_number_of an_number_of cd_number_of ct_number_of), sl_number_of⟩)
    (c_number_of : PySem.W.codeIn K cd_number_of "number_of" = true)
    (k_number_of : PySem.W.keepIn K (.ref f_number_of) = true)
    (a_is_text : PySem.W.nsIn K mainGlobals "is_text" = some (some (.ref f_is_text)))
    (l_is_text : K.lookup f_is_text = some ⟨oc_is_text, od_is_text, .func (PySem.W.fnOf "is_text" "is_text" (defArgs s_is_text) (defBody s_is_text) (defScope s_is_text) .none kV_is_text dc_is_text pm_is_text an_is_text cd_is_text ct_is_text), sl_is_text⟩)
    (c_is_text : PySem.W.codeIn K cd_is_text "is_text" = true)
    (k_is_text : PySem.W.keepIn K (.ref f_is_text) = true)
    (a_octets_of : PySem.W.nsIn K mainGlobals "octets_of" = some (some (.ref f_octets_of)))
    (l_octets_of : K.lookup f_octets_of = some ⟨oc_octets_of, od_octets_of, .func (PySem.W.fnOf "octets_of" "octets_of" (defArgs s_octets_of) (defBody s_octets_of) (defScope s_octets_of) .none kV_octets_of dc_octets_of pm_octets_of an_octets_of cd_octets_of ct_octets_of), sl_octets_of⟩)
    (c_octets_of : PySem.W.codeIn K cd_octets_of "octets_of" = true)
    (k_octets_of : PySem.W.keepIn K (.ref f_octets_of) = true)
    (a_text_of : PySem.W.nsIn K mainGlobals "text_of" = some (some (.ref f_text_of)))
    (l_text_of : K.lookup f_text_of = some ⟨oc_text_of, od_text_of, .func (PySem.W.fnOf "text_of" "text_of" (defArgs s_text_of) (defBody s_text_of) (defScope s_text_of) .none kV_text_of dc_text_of pm_text_of an_text_of cd_text_of ct_text_of), sl_text_of⟩)
    (c_text_of : PySem.W.codeIn K cd_text_of "text_of" = true)
    (k_text_of : PySem.W.keepIn K (.ref f_text_of) = true)
    (a_is_code : PySem.W.nsIn K mainGlobals "_is_code" = some (some (.ref f_is_code)))
    (l_is_code : K.lookup f_is_code = some ⟨oc_is_code, od_is_code, .func (PySem.W.fnOf "_is_code" "_is_code" (defArgs s_is_code) (defBody s_is_code) (defScope s_is_code) .none kV_is_code dc_is_code pm_is_code an_is_code cd_is_code ct_is_code), sl_is_code⟩)
    (c_is_code : PySem.W.codeIn K cd_is_code "_is_code" = true)
    (k_is_code : PySem.W.keepIn K (.ref f_is_code) = true)
    (a_filled : PySem.W.nsIn K mainGlobals "filled" = some (some (.ref f_filled)))
    (l_filled : K.lookup f_filled = some ⟨oc_filled, od_filled, .func (PySem.W.fnOf "filled" "filled" (defArgs s_filled) (defBody s_filled) (defScope s_filled) .none kV_filled dc_filled pm_filled an_filled cd_filled ct_filled), sl_filled⟩)
    (c_filled : PySem.W.codeIn K cd_filled "filled" = true)
    (k_filled : PySem.W.keepIn K (.ref f_filled) = true)
    (a_is_name : PySem.W.nsIn K mainGlobals "is_name" = some (some (.ref f_is_name)))
    (l_is_name : K.lookup f_is_name = some ⟨oc_is_name, od_is_name, .func (PySem.W.fnOf "is_name" "is_name" (defArgs s_is_name) (defBody s_is_name) (defScope s_is_name) .none kV_is_name dc_is_name pm_is_name an_is_name cd_is_name ct_is_name), sl_is_name⟩)
    (c_is_name : PySem.W.codeIn K cd_is_name "is_name" = true)
    (k_is_name : PySem.W.keepIn K (.ref f_is_name) = true)
    (a_encode_entry : PySem.W.nsIn K mainGlobals "encode_entry" = some (some (.ref f_encode_entry)))
    (l_encode_entry : K.lookup f_encode_entry = some ⟨oc_encode_entry, od_encode_entry, .func (PySem.W.fnOf "encode_entry" "encode_entry" (defArgs s_encode_entry) (defBody s_encode_entry) (defScope s_encode_entry) .none kV_encode_entry dc_encode_entry pm_encode_entry an_encode_entry cd_encode_entry ct_encode_entry), sl_encode_entry⟩)
    (c_encode_entry : PySem.W.codeIn K cd_encode_entry "encode_entry" = true)
    (k_encode_entry : PySem.W.keepIn K (.ref f_encode_entry) = true)
    (a_decode_entry : PySem.W.nsIn K mainGlobals "decode_entry" = some (some (.ref f_decode_entry)))
    (l_decode_entry : K.lookup f_decode_entry = some ⟨oc_decode_entry, od_decode_entry, .func (PySem.W.fnOf "decode_entry" "decode_entry" (defArgs s_decode_entry) (defBody s_decode_entry) (defScope s_decode_entry) .none kV_decode_entry dc_decode_entry pm_decode_entry an_decode_entry cd_decode_entry ct_decode_entry), sl_decode_entry⟩)
    (c_decode_entry : PySem.W.codeIn K cd_decode_entry "decode_entry" = true)
    (k_decode_entry : PySem.W.keepIn K (.ref f_decode_entry) = true)
    (a_law_row : PySem.W.nsIn K mainGlobals "_law_row" = some (some (.ref f_law_row)))
    (l_law_row : K.lookup f_law_row = some ⟨oc_law_row, od_law_row, .func (PySem.W.fnOf "_law_row" "_law_row" (defArgs s_law_row) (defBody s_law_row) (defScope s_law_row) .none kV_law_row dc_law_row pm_law_row an_law_row cd_law_row ct_law_row), sl_law_row⟩)
    (c_law_row : PySem.W.codeIn K cd_law_row "_law_row" = true)
    (k_law_row : PySem.W.keepIn K (.ref f_law_row) = true)
    (a_law_is_integer : PySem.W.nsIn K mainGlobals "_law_is_integer" = some (some (.ref f_law_is_integer)))
    (l_law_is_integer : K.lookup f_law_is_integer = some ⟨oc_law_is_integer, od_law_is_integer, .func (PySem.W.fnOf "_law_is_integer" "_law_is_integer" (defArgs s_law_is_integer) (defBody s_law_is_integer) (defScope s_law_is_integer) .none kV_law_is_integer dc_law_is_integer pm_law_is_integer an_law_is_integer cd_law_is_integer ct_law_is_integer), sl_law_is_integer⟩)
    (c_law_is_integer : PySem.W.codeIn K cd_law_is_integer "_law_is_integer" = true)
    (k_law_is_integer : PySem.W.keepIn K (.ref f_law_is_integer) = true)
    (a_law_char : PySem.W.nsIn K mainGlobals "_law_char" = some (some (.ref f_law_char)))
    (l_law_char : K.lookup f_law_char = some ⟨oc_law_char, od_law_char, .func (PySem.W.fnOf "_law_char" "_law_char" (defArgs s_law_char) (defBody s_law_char) (defScope s_law_char) .none kV_law_char dc_law_char pm_law_char an_law_char cd_law_char ct_law_char), sl_law_char⟩)
    (c_law_char : PySem.W.codeIn K cd_law_char "_law_char" = true)
    (k_law_char : PySem.W.keepIn K (.ref f_law_char) = true)
    (a_law_text : PySem.W.nsIn K mainGlobals "_law_text" = some (some (.ref f_law_text)))
    (l_law_text : K.lookup f_law_text = some ⟨oc_law_text, od_law_text, .func (PySem.W.fnOf "_law_text" "_law_text" (defArgs s_law_text) (defBody s_law_text) (defScope s_law_text) .none kV_law_text dc_law_text pm_law_text an_law_text cd_law_text ct_law_text), sl_law_text⟩)
    (c_law_text : PySem.W.codeIn K cd_law_text "_law_text" = true)
    (k_law_text : PySem.W.keepIn K (.ref f_law_text) = true)
    (a_law_name : PySem.W.nsIn K mainGlobals "_law_name" = some (some (.ref f_law_name)))
    (l_law_name : K.lookup f_law_name = some ⟨oc_law_name, od_law_name, .func (PySem.W.fnOf "_law_name" "_law_name" (defArgs s_law_name) (defBody s_law_name) (defScope s_law_name) .none kV_law_name dc_law_name pm_law_name an_law_name cd_law_name ct_law_name), sl_law_name⟩)
    (c_law_name : PySem.W.codeIn K cd_law_name "_law_name" = true)
    (k_law_name : PySem.W.keepIn K (.ref f_law_name) = true)
    (a_law_octets : PySem.W.nsIn K mainGlobals "_law_octets" = some (some (.ref f_law_octets)))
    (l_law_octets : K.lookup f_law_octets = some ⟨oc_law_octets, od_law_octets, .func (PySem.W.fnOf "_law_octets" "_law_octets" (defArgs s_law_octets) (defBody s_law_octets) (defScope s_law_octets) .none kV_law_octets dc_law_octets pm_law_octets an_law_octets cd_law_octets ct_law_octets), sl_law_octets⟩)
    (c_law_octets : PySem.W.codeIn K cd_law_octets "_law_octets" = true)
    (k_law_octets : PySem.W.keepIn K (.ref f_law_octets) = true)
    (a_law_good : PySem.W.nsIn K mainGlobals "_law_good" = some (some (.ref f_law_good)))
    (l_law_good : K.lookup f_law_good = some ⟨oc_law_good, od_law_good, .func (PySem.W.fnOf "_law_good" "_law_good" (defArgs s_law_good) (defBody s_law_good) (defScope s_law_good) .none kV_law_good dc_law_good pm_law_good an_law_good cd_law_good ct_law_good), sl_law_good⟩)
    (c_law_good : PySem.W.codeIn K cd_law_good "_law_good" = true)
    (k_law_good : PySem.W.keepIn K (.ref f_law_good) = true)
    (a_law_reads : PySem.W.nsIn K mainGlobals "_law_reads" = some (some (.ref f_law_reads)))
    (l_law_reads : K.lookup f_law_reads = some ⟨oc_law_reads, od_law_reads, .func (PySem.W.fnOf "_law_reads" "_law_reads" (defArgs s_law_reads) (defBody s_law_reads) (defScope s_law_reads) .none kV_law_reads dc_law_reads pm_law_reads an_law_reads cd_law_reads ct_law_reads), sl_law_reads⟩)
    (c_law_reads : PySem.W.codeIn K cd_law_reads "_law_reads" = true)
    (k_law_reads : PySem.W.keepIn K (.ref f_law_reads) = true)
    (a_law_is : PySem.W.nsIn K mainGlobals "_law_is" = some (some (.ref f_law_is)))
    (l_law_is : K.lookup f_law_is = some ⟨oc_law_is, od_law_is, .func (PySem.W.fnOf "_law_is" "_law_is" (defArgs s_law_is) (defBody s_law_is) (defScope s_law_is) .none kV_law_is dc_law_is pm_law_is an_law_is cd_law_is ct_law_is), sl_law_is⟩)
    (c_law_is : PySem.W.codeIn K cd_law_is "_law_is" = true)
    (k_law_is : PySem.W.keepIn K (.ref f_law_is) = true)
    (a_law_names : PySem.W.nsIn K mainGlobals "_law_names" = some (some (.ref f_law_names)))
    (l_law_names : K.lookup f_law_names = some ⟨oc_law_names, od_law_names, .func (PySem.W.fnOf "_law_names" "_law_names" (defArgs s_law_names) (defBody s_law_names) (defScope s_law_names) .none kV_law_names dc_law_names pm_law_names an_law_names cd_law_names ct_law_names), sl_law_names⟩)
    (c_law_names : PySem.W.codeIn K cd_law_names "_law_names" = true)
    (k_law_names : PySem.W.keepIn K (.ref f_law_names) = true)
    (a_law : PySem.W.nsIn K mainGlobals "law" = some (some (.ref f_law)))
    (l_law : K.lookup f_law = some ⟨oc_law, od_law, .func (PySem.W.fnOf "law" "law" (defArgs s_law) (defBody s_law) (defScope s_law) .none kV_law dc_law pm_law an_law cd_law ct_law), sl_law⟩)
    (c_law : PySem.W.codeIn K cd_law "law" = true)
    (k_law : PySem.W.keepIn K (.ref f_law) = true)
    (q_ENTRY_OCTETS : PySem.W.nsIn K mainGlobals "ENTRY_OCTETS" = some (some (.int 32 t_ENTRY_OCTETS)))
    (q_FIRST_CODE : PySem.W.nsIn K mainGlobals "FIRST_CODE" = some (some (.int 32 t_FIRST_CODE)))
    (q_LAST_CODE : PySem.W.nsIn K mainGlobals "LAST_CODE" = some (some (.int 126 t_LAST_CODE)))
    (q_MOST_SIGNS : PySem.W.nsIn K mainGlobals "MOST_SIGNS" = some (some (.int 28 t_MOST_SIGNS)))
    (q_NAME_START : PySem.W.nsIn K mainGlobals "NAME_START" = some (some (.int 3 t_NAME_START)))
    (q_PERCENT : PySem.W.nsIn K mainGlobals "PERCENT" = some (some (.int 37 t_PERCENT)))
    (q_SIGNS : PySem.W.nsIn K mainGlobals "SIGNS" = some (some (.str " !\"#$ &'()*+,-./0123456789:;<=>?@ABCDEFGHIJKLMNOPQRSTUVWXYZ[\\]^_`abcdefghijklmnopqrstuvwxyz{|}~" t_SIGNS)))
    (n_all : PySem.W.nsIn K mainGlobals "all" = some none)
    (n_bool : PySem.W.nsIn K mainGlobals "bool" = some none)
    (n_int : PySem.W.nsIn K mainGlobals "int" = some none)
    (n_isinstance : PySem.W.nsIn K mainGlobals "isinstance" = some none)
    (n_len : PySem.W.nsIn K mainGlobals "len" = some none)
    (n_list : PySem.W.nsIn K mainGlobals "list" = some none)
    (n_min : PySem.W.nsIn K mainGlobals "min" = some none)
    (n_ord : PySem.W.nsIn K mainGlobals "ord" = some none)
    (n_range : PySem.W.nsIn K mainGlobals "range" = some none)
    (n_reversed : PySem.W.nsIn K mainGlobals "reversed" = some none)
    (n_str : PySem.W.nsIn K mainGlobals "str" = some none)
    (n_tuple : PySem.W.nsIn K mainGlobals "tuple" = some none)
    : ∃ fd : FuncData, (∀ (s : Shared) (v : Value), BindsTo s fd ⟨[v], []⟩ [("script", v)]) ∧ ∀ base : Heap, K.In base → base.Ns mainGlobals mg → FnOk l.prog w K mg base CX0 6 fa fd ["script"] (spLaw K) := by
  have e := hfa.symm.trans (PySem.W.mg_of X G a_law)
  cases e
  have F_number_octets := fun_mk (st := s_number_octets) l_number_octets c_number_octets k_number_octets
  have b_number_octets := F_number_octets.binds (ps := ["number", "count"]) fun _ _ _ _ _ _ us hl => match us, hl with | [_, _], _ => rfl
  have F_number_of := fun_mk (st := s_number_of) l_number_of c_number_of k_number_of
  have b_number_of := F_number_of.binds (ps := ["octets"]) fun _ _ _ _ _ _ us hl => match us, hl with | [_], _ => rfl
  have F_is_text := fun_mk (st := s_is_text) l_is_text c_is_text k_is_text
  have b_is_text := F_is_text.binds (ps := ["text"]) fun _ _ _ _ _ _ us hl => match us, hl with | [_], _ => rfl
  have F_octets_of := fun_mk (st := s_octets_of) l_octets_of c_octets_of k_octets_of
  have b_octets_of := F_octets_of.binds (ps := ["text"]) fun _ _ _ _ _ _ us hl => match us, hl with | [_], _ => rfl
  have F_text_of := fun_mk (st := s_text_of) l_text_of c_text_of k_text_of
  have b_text_of := F_text_of.binds (ps := ["octets"]) fun _ _ _ _ _ _ us hl => match us, hl with | [_], _ => rfl
  have F_is_code := fun_mk (st := s_is_code) l_is_code c_is_code k_is_code
  have b_is_code := F_is_code.binds (ps := ["number"]) fun _ _ _ _ _ _ us hl => match us, hl with | [_], _ => rfl
  have F_filled := fun_mk (st := s_filled) l_filled c_filled k_filled
  have b_filled := F_filled.binds (ps := ["numbers", "count"]) fun _ _ _ _ _ _ us hl => match us, hl with | [_, _], _ => rfl
  have F_is_name := fun_mk (st := s_is_name) l_is_name c_is_name k_is_name
  have b_is_name := F_is_name.binds (ps := ["text"]) fun _ _ _ _ _ _ us hl => match us, hl with | [_], _ => rfl
  have F_encode_entry := fun_mk (st := s_encode_entry) l_encode_entry c_encode_entry k_encode_entry
  have b_encode_entry := F_encode_entry.binds (ps := ["name", "number"]) fun _ _ _ _ _ _ us hl => match us, hl with | [_, _], _ => rfl
  have F_decode_entry := fun_mk (st := s_decode_entry) l_decode_entry c_decode_entry k_decode_entry
  have b_decode_entry := F_decode_entry.binds (ps := ["octets"]) fun _ _ _ _ _ _ us hl => match us, hl with | [_], _ => rfl
  have F_law_row := fun_mk (st := s_law_row) l_law_row c_law_row k_law_row
  have b_law_row := F_law_row.binds (ps := ["script", "k"]) fun _ _ _ _ _ _ us hl => match us, hl with | [_, _], _ => rfl
  have F_law_is_integer := fun_mk (st := s_law_is_integer) l_law_is_integer c_law_is_integer k_law_is_integer
  have b_law_is_integer := F_law_is_integer.binds (ps := ["actual"]) fun _ _ _ _ _ _ us hl => match us, hl with | [_], _ => rfl
  have F_law_char := fun_mk (st := s_law_char) l_law_char c_law_char k_law_char
  have b_law_char := F_law_char.binds (ps := ["number"]) fun _ _ _ _ _ _ us hl => match us, hl with | [_], _ => rfl
  have F_law_text := fun_mk (st := s_law_text) l_law_text c_law_text k_law_text
  have b_law_text := F_law_text.binds (ps := ["number", "count"]) fun _ _ _ _ _ _ us hl => match us, hl with | [_, _], _ => rfl
  have F_law_name := fun_mk (st := s_law_name) l_law_name c_law_name k_law_name
  have b_law_name := F_law_name.binds (ps := ["number"]) fun _ _ _ _ _ _ us hl => match us, hl with | [_], _ => rfl
  have F_law_octets := fun_mk (st := s_law_octets) l_law_octets c_law_octets k_law_octets
  have b_law_octets := F_law_octets.binds (ps := ["name", "number"]) fun _ _ _ _ _ _ us hl => match us, hl with | [_, _], _ => rfl
  have F_law_good := fun_mk (st := s_law_good) l_law_good c_law_good k_law_good
  have b_law_good := F_law_good.binds (ps := ["octets"]) fun _ _ _ _ _ _ us hl => match us, hl with | [_], _ => rfl
  have F_law_reads := fun_mk (st := s_law_reads) l_law_reads c_law_reads k_law_reads
  have b_law_reads := F_law_reads.binds (ps := ["octets"]) fun _ _ _ _ _ _ us hl => match us, hl with | [_], _ => rfl
  have F_law_is := fun_mk (st := s_law_is) l_law_is c_law_is k_law_is
  have b_law_is := F_law_is.binds (ps := ["actual", "due"]) fun _ _ _ _ _ _ us hl => match us, hl with | [_, _], _ => rfl
  have F_law_names := fun_mk (st := s_law_names) l_law_names c_law_names k_law_names
  have b_law_names := F_law_names.binds (ps := ["number"]) fun _ _ _ _ _ _ us hl => match us, hl with | [_], _ => rfl
  have F_law := fun_mk (st := s_law) l_law c_law k_law
  have b_law := F_law.binds (ps := ["script"]) fun _ _ _ _ _ _ us hl => match us, hl with | [_], _ => rfl
  let T : Txt K mg := {
    a_number_octets := f_number_octets,
    fd_number_octets := _,
    F_number_octets := F_number_octets,
    b_number_octets := b_number_octets,
    m_number_octets := PySem.W.mg_of X G a_number_octets,
    a_number_of := f_number_of,
    fd_number_of := _,
    F_number_of := F_number_of,
    b_number_of := b_number_of,
    m_number_of := PySem.W.mg_of X G a_number_of,
    a_is_text := f_is_text,
    fd_is_text := _,
    F_is_text := F_is_text,
    b_is_text := b_is_text,
    m_is_text := PySem.W.mg_of X G a_is_text,
    a_octets_of := f_octets_of,
    fd_octets_of := _,
    F_octets_of := F_octets_of,
    b_octets_of := b_octets_of,
    m_octets_of := PySem.W.mg_of X G a_octets_of,
    a_text_of := f_text_of,
    fd_text_of := _,
    F_text_of := F_text_of,
    b_text_of := b_text_of,
    m_text_of := PySem.W.mg_of X G a_text_of,
    a_is_code := f_is_code,
    fd_is_code := _,
    F_is_code := F_is_code,
    b_is_code := b_is_code,
    m_is_code := PySem.W.mg_of X G a_is_code,
    a_filled := f_filled,
    fd_filled := _,
    F_filled := F_filled,
    b_filled := b_filled,
    m_filled := PySem.W.mg_of X G a_filled,
    a_is_name := f_is_name,
    fd_is_name := _,
    F_is_name := F_is_name,
    b_is_name := b_is_name,
    m_is_name := PySem.W.mg_of X G a_is_name,
    a_encode_entry := f_encode_entry,
    fd_encode_entry := _,
    F_encode_entry := F_encode_entry,
    b_encode_entry := b_encode_entry,
    m_encode_entry := PySem.W.mg_of X G a_encode_entry,
    a_decode_entry := f_decode_entry,
    fd_decode_entry := _,
    F_decode_entry := F_decode_entry,
    b_decode_entry := b_decode_entry,
    m_decode_entry := PySem.W.mg_of X G a_decode_entry,
    a_law_row := f_law_row,
    fd_law_row := _,
    F_law_row := F_law_row,
    b_law_row := b_law_row,
    m_law_row := PySem.W.mg_of X G a_law_row,
    a_law_is_integer := f_law_is_integer,
    fd_law_is_integer := _,
    F_law_is_integer := F_law_is_integer,
    b_law_is_integer := b_law_is_integer,
    m_law_is_integer := PySem.W.mg_of X G a_law_is_integer,
    a_law_char := f_law_char,
    fd_law_char := _,
    F_law_char := F_law_char,
    b_law_char := b_law_char,
    m_law_char := PySem.W.mg_of X G a_law_char,
    a_law_text := f_law_text,
    fd_law_text := _,
    F_law_text := F_law_text,
    b_law_text := b_law_text,
    m_law_text := PySem.W.mg_of X G a_law_text,
    a_law_name := f_law_name,
    fd_law_name := _,
    F_law_name := F_law_name,
    b_law_name := b_law_name,
    m_law_name := PySem.W.mg_of X G a_law_name,
    a_law_octets := f_law_octets,
    fd_law_octets := _,
    F_law_octets := F_law_octets,
    b_law_octets := b_law_octets,
    m_law_octets := PySem.W.mg_of X G a_law_octets,
    a_law_good := f_law_good,
    fd_law_good := _,
    F_law_good := F_law_good,
    b_law_good := b_law_good,
    m_law_good := PySem.W.mg_of X G a_law_good,
    a_law_reads := f_law_reads,
    fd_law_reads := _,
    F_law_reads := F_law_reads,
    b_law_reads := b_law_reads,
    m_law_reads := PySem.W.mg_of X G a_law_reads,
    a_law_is := f_law_is,
    fd_law_is := _,
    F_law_is := F_law_is,
    b_law_is := b_law_is,
    m_law_is := PySem.W.mg_of X G a_law_is,
    a_law_names := f_law_names,
    fd_law_names := _,
    F_law_names := F_law_names,
    b_law_names := b_law_names,
    m_law_names := PySem.W.mg_of X G a_law_names,
    a_law := fa,
    fd_law := _,
    F_law := F_law,
    b_law := b_law,
    m_law := PySem.W.mg_of X G a_law,
    t_ENTRY_OCTETS := t_ENTRY_OCTETS,
    c_ENTRY_OCTETS := PySem.W.mg_of X G q_ENTRY_OCTETS,
    r_ENTRY_OCTETS := ⟨_, rfl⟩,
    t_FIRST_CODE := t_FIRST_CODE,
    c_FIRST_CODE := PySem.W.mg_of X G q_FIRST_CODE,
    r_FIRST_CODE := ⟨_, rfl⟩,
    t_LAST_CODE := t_LAST_CODE,
    c_LAST_CODE := PySem.W.mg_of X G q_LAST_CODE,
    r_LAST_CODE := ⟨_, rfl⟩,
    t_MOST_SIGNS := t_MOST_SIGNS,
    c_MOST_SIGNS := PySem.W.mg_of X G q_MOST_SIGNS,
    r_MOST_SIGNS := ⟨_, rfl⟩,
    t_NAME_START := t_NAME_START,
    c_NAME_START := PySem.W.mg_of X G q_NAME_START,
    r_NAME_START := ⟨_, rfl⟩,
    t_PERCENT := t_PERCENT,
    c_PERCENT := PySem.W.mg_of X G q_PERCENT,
    r_PERCENT := ⟨_, rfl⟩,
    t_SIGNS := t_SIGNS,
    c_SIGNS := PySem.W.mg_of X G q_SIGNS,
    r_SIGNS := ⟨_, rfl⟩,
    n_all := PySem.W.mg_none_of X G n_all,
    n_bool := PySem.W.mg_none_of X G n_bool,
    n_int := PySem.W.mg_none_of X G n_int,
    n_isinstance := PySem.W.mg_none_of X G n_isinstance,
    n_len := PySem.W.mg_none_of X G n_len,
    n_list := PySem.W.mg_none_of X G n_list,
    n_min := PySem.W.mg_none_of X G n_min,
    n_ord := PySem.W.mg_none_of X G n_ord,
    n_range := PySem.W.mg_none_of X G n_range,
    n_reversed := PySem.W.mg_none_of X G n_reversed,
    n_str := PySem.W.mg_none_of X G n_str,
    n_tuple := PySem.W.mg_none_of X G n_tuple }
  exact ⟨_, fun s v => .of_eq rfl, fun base _ _ => ok_law T⟩
theorem walk {l : PySem.W.OpenLaw} {q : Program} {loose : List Str} {XP : (Str → Option Value) → Heap → Prop} {YP : World → Heap → Prop} {d : DefRec} {K : Params → PySem.W.Frag} (hn : l.most = some 63) (hdf : d.params.defaults = [])
    (hY : ∀ (w : World) (h : Heap), YP w h → (K w.params).In h)
    (F : ∀ (w : World) (mg : Str → Option Value) (fa : Addr) (h : Heap), (K w.params).In h → h.Ns mainGlobals mg → mg d.name = some (.ref fa) →
      ∃ fd : FuncData, (∀ (s : Shared) (u : Value), BindsTo s fd ⟨[u], []⟩ [("script", u)]) ∧ ∀ base : Heap, (K w.params).In base → base.Ns mainGlobals mg → FnOk l.prog w (K w.params) mg base CX0 6 fa fd ["script"] (spLaw (K w.params))) :
    PySem.W.WalkO q loose XP YP l.row.toRowW d [] (fun f vs => PySem.call f vs) :=
  L2.walk_of (n := 63) (k := 6) (x := "script") (CX := fun _ => CX0) (sp := fun w => spLaw (K w.params)) hn (by decide) hdf ⟨rfl, by decide, by decide⟩ hY F (fun _ _ a ns hl hO hS => ⟨a, ns, rfl, hS, hl, fun _ => rfl⟩) fun _ _ _ _ _ z => z
end Sg

open PySem PySem.W PyProof.Rows in
set_option maxRecDepth 100000 in
set_option maxHeartbeats 0 in
theorem PySem.Challenge.cw_segmentfs_k49_entries_as_octets_holds : PySem.Challenge.rw_segmentfs_k49_entries_as_octets.Holds := by
  w_on; o_law; k_head; (case hw => w_witness2)
  k_fill
  refine Sg.walk (l := PySem.Challenge.rw_segmentfs_k49_entries_as_octets) rfl rfl (fun w h Y => PySem.W.kIn_of Y) ?F
  case F =>
    intro w mg fa h KX G hmg
    refine' Sg.all_mk KX G hmg ?a_number_octets ?l_number_octets ?c_number_octets ?k_number_octets ?a_number_of ?l_number_of ?c_number_of ?k_number_of ?a_is_text ?l_is_text ?c_is_text ?k_is_text ?a_octets_of ?l_octets_of ?c_octets_of ?k_octets_of ?a_text_of ?l_text_of ?c_text_of ?k_text_of ?a_is_code ?l_is_code ?c_is_code ?k_is_code ?a_filled ?l_filled ?c_filled ?k_filled ?a_is_name ?l_is_name ?c_is_name ?k_is_name ?a_encode_entry ?l_encode_entry ?c_encode_entry ?k_encode_entry ?a_decode_entry ?l_decode_entry ?c_decode_entry ?k_decode_entry ?a_law_row ?l_law_row ?c_law_row ?k_law_row ?a_law_is_integer ?l_law_is_integer ?c_law_is_integer ?k_law_is_integer ?a_law_char ?l_law_char ?c_law_char ?k_law_char ?a_law_text ?l_law_text ?c_law_text ?k_law_text ?a_law_name ?l_law_name ?c_law_name ?k_law_name ?a_law_octets ?l_law_octets ?c_law_octets ?k_law_octets ?a_law_good ?l_law_good ?c_law_good ?k_law_good ?a_law_reads ?l_law_reads ?c_law_reads ?k_law_reads ?a_law_is ?l_law_is ?c_law_is ?k_law_is ?a_law_names ?l_law_names ?c_law_names ?k_law_names ?a_law ?l_law ?c_law ?k_law ?q_ENTRY_OCTETS ?q_FIRST_CODE ?q_LAST_CODE ?q_MOST_SIGNS ?q_NAME_START ?q_PERCENT ?q_SIGNS ?n_all ?n_bool ?n_int ?n_isinstance ?n_len ?n_list ?n_min ?n_ord ?n_range ?n_reversed ?n_str ?n_tuple
    (case a_number_octets => k_is)
    (case l_number_octets => k_is)
    (case c_number_octets => k_is)
    (case k_number_octets => k_is)
    (case a_number_of => k_is)
    (case l_number_of => k_is)
    (case c_number_of => k_is)
    (case k_number_of => k_is)
    (case a_is_text => k_is)
    (case l_is_text => k_is)
    (case c_is_text => k_is)
    (case k_is_text => k_is)
    (case a_octets_of => k_is)
    (case l_octets_of => k_is)
    (case c_octets_of => k_is)
    (case k_octets_of => k_is)
    (case a_text_of => k_is)
    (case l_text_of => k_is)
    (case c_text_of => k_is)
    (case k_text_of => k_is)
    (case a_is_code => k_is)
    (case l_is_code => k_is)
    (case c_is_code => k_is)
    (case k_is_code => k_is)
    (case a_filled => k_is)
    (case l_filled => k_is)
    (case c_filled => k_is)
    (case k_filled => k_is)
    (case a_is_name => k_is)
    (case l_is_name => k_is)
    (case c_is_name => k_is)
    (case k_is_name => k_is)
    (case a_encode_entry => k_is)
    (case l_encode_entry => k_is)
    (case c_encode_entry => k_is)
    (case k_encode_entry => k_is)
    (case a_decode_entry => k_is)
    (case l_decode_entry => k_is)
    (case c_decode_entry => k_is)
    (case k_decode_entry => k_is)
    (case a_law_row => k_is)
    (case l_law_row => k_is)
    (case c_law_row => k_is)
    (case k_law_row => k_is)
    (case a_law_is_integer => k_is)
    (case l_law_is_integer => k_is)
    (case c_law_is_integer => k_is)
    (case k_law_is_integer => k_is)
    (case a_law_char => k_is)
    (case l_law_char => k_is)
    (case c_law_char => k_is)
    (case k_law_char => k_is)
    (case a_law_text => k_is)
    (case l_law_text => k_is)
    (case c_law_text => k_is)
    (case k_law_text => k_is)
    (case a_law_name => k_is)
    (case l_law_name => k_is)
    (case c_law_name => k_is)
    (case k_law_name => k_is)
    (case a_law_octets => k_is)
    (case l_law_octets => k_is)
    (case c_law_octets => k_is)
    (case k_law_octets => k_is)
    (case a_law_good => k_is)
    (case l_law_good => k_is)
    (case c_law_good => k_is)
    (case k_law_good => k_is)
    (case a_law_reads => k_is)
    (case l_law_reads => k_is)
    (case c_law_reads => k_is)
    (case k_law_reads => k_is)
    (case a_law_is => k_is)
    (case l_law_is => k_is)
    (case c_law_is => k_is)
    (case k_law_is => k_is)
    (case a_law_names => k_is)
    (case l_law_names => k_is)
    (case c_law_names => k_is)
    (case k_law_names => k_is)
    (case a_law => k_is)
    (case l_law => k_is)
    (case c_law => k_is)
    (case k_law => k_is)
    (case q_ENTRY_OCTETS => k_is)
    (case q_FIRST_CODE => k_is)
    (case q_LAST_CODE => k_is)
    (case q_MOST_SIGNS => k_is)
    (case q_NAME_START => k_is)
    (case q_PERCENT => k_is)
    (case q_SIGNS => k_is)
    (case n_all => k_is)
    (case n_bool => k_is)
    (case n_int => k_is)
    (case n_isinstance => k_is)
    (case n_len => k_is)
    (case n_list => k_is)
    (case n_min => k_is)
    (case n_ord => k_is)
    (case n_range => k_is)
    (case n_reversed => k_is)
    (case n_str => k_is)
    (case n_tuple => k_is)

