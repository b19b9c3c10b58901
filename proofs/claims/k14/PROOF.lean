import PyProof.Rows.All
import Wide.All
import OpenK.AllK
import Wide.FinOn
import HandS.ForMost
import HandS.IsInst
import HandS.Style
import HandS.Wide
import HandS.Codes
import HandS.NoneIn
import HandS.Defaults
import HandS.TupMul
import HandS.Zip
import HandS.SetFor
import HandS.SetKeys
import HandS.Walk
import HandS.MakeKwOnly
import HandS.Style
import KE.GoesEnum
import PyProof.ConsumeWalk
import PySem.Challenge.RW_segmentfs_k14_regions_that_hold_a_checkp
set_option Elab.async false
set_option maxRecDepth 100000
set_option maxHeartbeats 4000000
/-! what every text of mine begins with: heaps that grow, and a rule for each head that a reading has -/
namespace Sg
open PySem L2
theorem sz : sizeLine = 16777216 := by decide
theorem Same.of_new {H H' : Hp} {p : Addr} {o : HO} (e : upd H p o = H') (h : H p = none) : Same H H' := fun b u q => by
  rw [← e, upd_ne (ne_of_none q h)]; exact q
theorem at_new {H H' : Hp} {p : Addr} {o : HO} (e : upd H p o = H') : H' p = some o := by rw [← e]; exact upd_same
theorem Same.tup {K : PySem.W.Frag} {H H' : Hp} {a : Addr} {xs : List V} (e : Same H H') (h : SqT K H a xs) : SqT K H' a xs := by
  rcases h with (h | ⟨o, h⟩) | h
  · exact .inl (.inl (e _ _ h))
  · exact .inl (.inr ⟨o, e _ _ h⟩)
  · exact .inr h
/-- an object that is younger than H0 is changed -/
theorem Same.old {H0 H H' : Hp} {p : Addr} {o : HO} (s : Same H0 H) (h : H0 p = none) (e : upd H p o = H') : Same H0 H' := fun b u q => by
  rw [← e, upd_ne (ne_of_none q h)]; exact s _ _ q
theorem at_keep {H H' : Hp} {l a : Addr} {o o' ol : HO} (e : upd H l o' = H') (h : H a = some o) (h' : H l = some ol) (d : o ≠ ol) : H' a = some o := by
  rw [← e, upd_ne (ne_of h h' d)]; exact h
theorem lk_eq {f : Str} {v : V} {fs : List (Str × V)} : (putF f v fs).lookup f = some v := by rw [lookup_putF, if_pos rfl]
theorem lk_ne {f g : Str} {v x : V} {fs : List (Str × V)} (h : ¬ g = f) (q : fs.lookup g = some v) : (putF f x fs).lookup g = some v := by rw [lookup_putF, if_neg h]; exact q
theorem lk_no {f g : Str} {x : V} {fs : List (Str × V)} (h : ¬ g = f) (q : fs.lookup g = none) : (putF f x fs).lookup g = none := by rw [lookup_putF, if_neg h]; exact q
theorem putF_len {f : Str} {v : V} : ∀ {fs : List (Str × V)} {n : Nat}, fs.length ≤ n → (putF f v fs).length ≤ n + 1
  | [], n, _ => by simp [putF]
  | (g, x) :: r, n, h => by
    unfold putF
    split
    · simp at h ⊢; omega
    · cases n with
      | zero => simp at h
      | succ n =>
        simp at h ⊢
        exact putF_len h
theorem to_ite {A B : Prop} {b : Bool} (h1 : b = true → A) (h2 : b = false → B) : if b = true then A else B := by
  cases b with
  | true => exact iteT (h1 rfl)
  | false => exact iteF (h2 rfl)
theorem iteT' {A B : Prop} (h : A) : if (true : Bool) = true then A else B := iteT h
theorem iteF' {A B : Prop} (h : B) : if (false : Bool) = true then A else B := iteF h
theorem r_iteb {A B : Prop} {b : Bool} (hb : b = true) (h : A) : if b = true then A else B := to_ite (fun _ => h) fun z => by rw [hb] at z; cases z
theorem r_iteB {A B : Prop} {b : Bool} (hb : b = false) (h : B) : if b = true then A else B := to_ite (fun z => by rw [hb] at z; cases z) fun _ => h
theorem r_ite {A B c : Prop} [Decidable c] (h1 : c → A) (h2 : ¬ c → B) : if decide c = true then A else B :=
  to_ite (fun h => h1 (of_decide_eq_true h)) (fun h => h2 (of_decide_eq_false h))
theorem r_iteN {A B c : Prop} [Decidable c] (h1 : ¬ c → A) (h2 : c → B) : if (!decide c) = true then A else B :=
  to_ite (fun h => h1 (by simpa using h)) (fun h => h2 (by simpa using h))
theorem r_iteD {A B c : Prop} [Decidable c] (hc : c) (h : A) : if decide c = true then A else B := r_ite (fun _ => h) fun z => absurd hc z
theorem r_iteDn {A B c : Prop} [Decidable c] (hc : ¬ c) (h : B) : if decide c = true then A else B := r_ite (fun z => absurd z hc) fun _ => h
theorem r_iteND {A B c : Prop} [Decidable c] (hc : ¬ c) (h : A) : if (!decide c) = true then A else B := r_iteN (fun _ => h) fun z => absurd z hc
theorem r_iteNDn {A B c : Prop} [Decidable c] (hc : c) (h : B) : if (!decide c) = true then A else B := r_iteN (fun z => absurd hc z) fun _ => h
/-- the continuations of a reading, by name -/
def kTest (QB : Bool → Hp → Prop) : V → Hp → Prop := fun x H => ∃ k, x = .bl k ∧ QB k H
def kFld (K : PySem.W.Frag) (f : Str) (Q : V → Hp → Prop) : V → Hp → Prop := fun x H => ∃ a C dx fs v, x = .ref a ∧ H a = some (.ins C dx fs) ∧ Cls K C ∧ NoAttr K C f ∧ fs.lookup f = some v ∧ Q v H
def kSfld (K : PySem.W.Frag) (D : Ends) (σ : L2.St) (f : Str) (y : V) : V → Hp → Prop := fun x H => ∃ a C dx fs, x = .ref a ∧ H a = some (.ins C dx fs) ∧ Cls K C ∧ NoAttr K C f ∧ fs.length < 1000 ∧
  D.nx σ (upd H a (.ins C dx (putF f y fs)))
def kMeth (C : Addr) (m : Str) (sp : Sp) (dvs : List V) (E : XK) (σ : L2.St) (t : TA) (Q : V → Hp → Prop) : V → Hp → Prop := fun x H => ∃ a dx fs, x = .ref a ∧ H a = some (.ins C dx fs) ∧ fs.lookup m = none ∧ t σ H fun vs H2 => sp (x :: (vs ++ dvs)) H2 Q E
def kTup (Q : V → Hp → Prop) : List V → Hp → Prop := fun xs H => xs.length ≤ sizeLine ∧ ∀ p, H p = none → Q (.ref p) (upd H p (.tup xs))
def kLst (Q : V → Hp → Prop) : List V → Hp → Prop := fun xs H => xs.length ≤ sizeLine ∧ ∀ p, H p = none → Q (.ref p) (upd H p (.lst xs))
def rLen (K : PySem.W.Frag) : List V → Hp → (V → Hp → Prop) → Prop := fun xs H Q => ∃ p ys, xs = [.ref p] ∧ (SqL K H p ys ∨ SqT K H p ys) ∧ Q (.int ys.length) H
theorem c_len {X : Cx} : CallR X (.builtin "len") (rLen X.K) := call_len_seq
def rInt : List V → Hp → (V → Hp → Prop) → Prop := fun xs H Q => (∃ i, xs = [.int i] ∧ Q (.int i) H) ∨ ∃ k, xs = [.bl k] ∧ Q (.int (if k then 1 else 0)) H
theorem c_int {X : Cx} : CallR X (.type "int") rInt := call_int1
def rListOf (K : PySem.W.Frag) : List V → Hp → (V → Hp → Prop) → Prop := fun xs H Q => ∃ p ys, xs = [.ref p] ∧ (SqL K H p ys ∨ SqT K H p ys) ∧ ∀ l, H l = none → Q (.ref l) (upd H l (.lst ys))
theorem c_list {X : Cx} : CallR X (.type "list") (rListOf X.K) := call_list_of
def rTupOf (K : PySem.W.Frag) : List V → Hp → (V → Hp → Prop) → Prop := fun xs H Q => ∃ p ys, xs = [.ref p] ∧ ((SqL K H p ys ∧ ∀ l, H l = none → Q (.ref l) (upd H l (.tup ys))) ∨ (SqT K H p ys ∧ Q (.ref p) H))
theorem c_tuple {X : Cx} : CallR X (.type "tuple") (rTupOf X.K) := call_tuple_of
/-! the same rules within a comprehension: the written part by its own name -/
section
variable {X : Cx}
theorem c_listK (K : PySem.W.Frag) (h : X.K = K) : CallR X (.type "list") (rListOf K) := by subst h; exact c_list
theorem c_tupleK (K : PySem.W.Frag) (h : X.K = K) : CallR X (.type "tuple") (rTupOf K) := by subst h; exact c_tuple
theorem c_lenK (K : PySem.W.Frag) (h : X.K = K) : CallR X (.builtin "len") (rLen K) := by subst h; exact c_len
theorem ix_listK (K : PySem.W.Frag) (h : X.K = K) : IxR X (rIxL K) := by subst h; exact ix_list
theorem ix_tupK (K : PySem.W.Frag) (h : X.K = K) : IxR X (rIxT K) := by subst h; exact ix_tup
theorem op_in_seqK (K : PySem.W.Frag) (h : X.K = K) : OpR X (compareOp .In) (rIn K false) := by subst h; exact op_in_seq
theorem op_notIn_seqK (K : PySem.W.Frag) (h : X.K = K) : OpR X (compareOp .NotIn) (rIn K true) := by subst h; exact op_notIn_seq
theorem pe_fldK (K : PySem.W.Frag) (h : X.K = K) {e : Expr} {f : Str} {pos : Pos} {ta : TE} (he : PE X e ta) (hb : attributeBase e f X.env (eval e X.env) = eval e X.env) : PE X (.Attribute e f pos) (tFld K ta f) := by subst h; exact pe_fld he hb
end
section
variable {σ : L2.St} {H : Hp} {D : Ends} {t u : TS} {te ta tb tc : TE} {g : TG} {c ct cu : TT} {Q : VK} {QB : Bool → Hp → Prop} {QS : L2.St → Hp → Prop} {QA : List V → Hp → Prop} {v x y : V} {K : PySem.W.Frag} {a p l : Addr} {xs ys : List V} {i j : Int} {b : Bool}
theorem r_seq (h : t { D with nx := u D } σ H) : tSeq t u D σ H := h
theorem r_cut (Mid : L2.St → Hp → Prop) (h1 : t { D with nx := Mid } σ H) (h2 : ∀ σ' H', Mid σ' H' → u D σ' H') : C8.tCut t u D σ H := ⟨Mid, h1, h2⟩
/-- a test with nothing kept behind it -/
theorem r_cutS (h1 : t { D with nx := fun σ' H' => σ = σ' ∧ H = H' } σ H) (h2 : u D σ H) : C8.tCut t u D σ H := ⟨_, h1, fun _ _ ⟨e1, e2⟩ => by subst e1; subst e2; exact h2⟩
/-- .. but a heap that grew -/
theorem r_cutH (h1 : t { D with nx := fun σ' H' => σ = σ' ∧ L2.Same H H' } σ H) (h2 : ∀ H', L2.Same H H' → u D σ H') : C8.tCut t u D σ H := ⟨_, h1, fun _ _ ⟨e1, e2⟩ => by subst e1; exact h2 _ e2⟩
theorem r_asg (h : te σ H fun x H1 => g x σ H1 D.nx) : tAsg te g D σ H := h
theorem r_drop (h : te σ H fun _ H1 => D.nx σ H1) : tDrop te D σ H := h
theorem r_ret (h : te σ H D.rt) : tRet te D σ H := h
theorem r_ifs (h : c σ H fun b H1 => if b = true then t D σ H1 else u D σ H1) : tIfS c t u D σ H := h
theorem r_next (h : D.nx σ H) : tNext D σ H := h
theorem r_gname {n : Nat} (h : QS (σ.set n (some v)) H) : gName n v σ H QS := h
theorem r_gtup {n : Nat} {t : TGs} (hx : SqT K H a xs) (hl : xs.length = n) (h : t xs σ H QS) : gTup K n t (.ref a) σ H QS := ⟨a, xs, rfl, hx, hl, h⟩
theorem r_gunl {n : Nat} {t : TGs} (hx : SqL K H a xs) (hl : xs.length = n) (h : t xs σ H QS) : gUnl K n t (.ref a) σ H QS := ⟨a, xs, rfl, hx, hl, h⟩
theorem r_chain {r r' : R2} (h : ta σ H fun x H1 => tb σ H1 fun y H2 => r x y H2 fun z H3 => ∃ k, z = .bl k ∧ (if k = true then tc σ H3 fun w' H4 => r' y w' H4 Q else Q (.bl false) H3)) : tChain r r' ta tb tc σ H Q := h
theorem r_sfldL {C dx : Addr} {fs : List (Str × V)} {f : Str} (h : H a = some (.ins C dx fs)) (hc : Cls K C) (hn : NoAttr K C f) (hl : fs.length < 1000) (q : D.nx σ (upd H a (.ins C dx (putF f y fs)))) : kSfld K D σ f y (.ref a) H := ⟨a, C, dx, fs, rfl, h, hc, hn, hl, q⟩
theorem r_gmap {α : Type} {f : α → V} {y : α} {r : List α} {t : TG} {u : TGs} (h : t (f y) σ H fun σ' H' => u (List.map f r) σ' H' QS) : gCons t u (List.map f (y :: r)) σ H QS := ⟨_, _, rfl, h⟩
theorem r_gmapn {α : Type} {f : α → V} (h : QS σ H) : gNil (List.map f []) σ H QS := ⟨rfl, h⟩
theorem r_gnil (h : QS σ H) : gNil [] σ H QS := ⟨rfl, h⟩
theorem r_gcons {t : TG} {u : TGs} {r : List V} (h : t v σ H fun σ' H' => u r σ' H' QS) : gCons t u (v :: r) σ H QS := ⟨v, r, rfl, h⟩
theorem r_gsub {t : TSet} (h : ta σ H fun o H1 => tb σ H1 fun i H2 => t o i v H2 fun H3 => QS σ H3) : gSub ta tb t v σ H QS := h
theorem r_setl {k : Int} {n : Nat} {R : Hp → Prop} (h1 : H p = some (.lst xs)) (h2 : ixN xs.length k = some n) (q : R (upd H p (.lst (xs.set n v)))) : rSetL (.ref p) (.int k) v H R := ⟨p, xs, k, n, rfl, rfl, h1, h2, q⟩
theorem r_var {n : Nat} (h : σ[n]? = some (some v)) (q : Q v H) : tVar n σ H Q := ⟨v, h, q⟩
theorem r_c (q : Q v H) : tC v σ H Q := q
theorem r_op {r : R2} (h : ta σ H fun x H1 => tb σ H1 fun y H2 => r x y H2 Q) : tOp r ta tb σ H Q := h
theorem r_un {r : V → Hp → VK → Prop} (h : ta σ H fun x H1 => r x H1 Q) : tUn r ta σ H Q := h
theorem r_rI {C : Int → Int → Prop} {g : Int → Int → V} (hc : C i j) (q : Q (g i j) H) : rI C g (.int i) (.int j) H Q := ⟨i, j, rfl, rfl, hc, q⟩
theorem r_mod (hc : 0 < j) (q : ∀ z : Int, z = i % j → 0 ≤ z → z < j → Q (.int z) H) : rI (fun _ j => 0 < j) (fun i j => .int (i % j)) (.int i) (.int j) H Q :=
  ⟨i, j, rfl, rfl, hc, q _ rfl (Int.emod_nonneg i (by omega)) (Int.emod_lt_of_pos i hc)⟩
theorem r_rI0 {g : Int → Int → V} (q : Q (g i j) H) : rI0 g (.int i) (.int j) H Q := ⟨i, j, rfl, rfl, q⟩
theorem r_rU {g : Int → V} (q : Q (g i) H) : rU g (.int i) H Q := ⟨i, rfl, q⟩
theorem r_eq (hs : scal x y = true) (q : Q (.bl (decide (x = y))) H) : rEq x y H Q := ⟨hs, q⟩
theorem r_ne (hs : scal x y = true) (q : Q (.bl (!decide (x = y))) H) : rNe x y H Q := ⟨hs, q⟩
theorem r_eqi (q : Q (.bl (decide (i = j))) H) : rEq (.int i) (.int j) H Q := ⟨rfl, by
  rw [show decide (V.int i = V.int j) = decide (i = j) from by by_cases e : i = j <;> simp [e]]; exact q⟩
theorem r_nei (q : Q (.bl (!decide (i = j))) H) : rNe (.int i) (.int j) H Q := ⟨rfl, by
  rw [show decide (V.int i = V.int j) = decide (i = j) from by by_cases e : i = j <;> simp [e]]; exact q⟩
theorem r_eqs {s t : Str} (q : Q (.bl (decide (s = t))) H) : rEq (.str s) (.str t) H Q := ⟨rfl, by
  rw [show decide (V.str s = V.str t) = decide (s = t) from by by_cases e : s = t <;> simp [e]]; exact q⟩
theorem r_nes {s t : Str} (q : Q (.bl (!decide (s = t))) H) : rNe (.str s) (.str t) H Q := ⟨rfl, by
  rw [show decide (V.str s = V.str t) = decide (s = t) from by by_cases e : s = t <;> simp [e]]; exact q⟩
theorem r_adds {s t : Str} (hz : s.length + t.length ≤ 1000000) (q : Q (.str (s ++ t)) H) : (fun (x y : V) (H : Hp) (Q : VK) => ∃ i j, x = .str i ∧ y = .str j ∧ i.length + j.length ≤ sizeLine ∧ Q (.str (i ++ j)) H) (.str s) (.str t) H Q := ⟨s, t, rfl, rfl, by rw [sz]; omega, q⟩
theorem r_nonR {A B : Prop} (h : A) : if (!decide (V.ref a = V.non)) = true then A else B := iteT' h
theorem r_nonN {A B : Prop} (h : B) : if (!decide (V.non = V.non)) = true then A else B := iteF' h
theorem r_isR {A B : Prop} (h : B) : if decide (V.ref a = V.non) = true then A else B := iteF' h
theorem r_isNN {A B : Prop} (h : A) : if decide (V.non = V.non) = true then A else B := iteT' h
theorem r_nonI {A B : Prop} (h : A) : if (!decide (V.int i = V.non)) = true then A else B := iteT' h
theorem r_isI {A B : Prop} (h : B) : if decide (V.int i = V.non) = true then A else B := iteF' h
theorem r_eqb {a b : Bool} (q : Q (.bl (decide (a = b))) H) : rEq (.bl a) (.bl b) H Q := ⟨rfl, by
  rw [show decide (V.bl a = V.bl b) = decide (a = b) from by by_cases e : a = b <;> simp [e]]; exact q⟩
theorem r_isS {A B : Prop} {z : Str} (h : B) : if decide (V.str z = V.non) = true then A else B := iteF' h
theorem r_nonS {A B : Prop} {z : Str} (h : A) : if (!decide (V.str z = V.non)) = true then A else B := iteT' h
theorem r_nil (q : QA [] H) : tNil σ H QA := q
theorem r_cons {tr : TA} (h : ta σ H fun x H1 => tr σ H1 fun xs H2 => QA (x :: xs) H2) : tCons ta tr σ H QA := h
theorem r_cb {r : List V → Hp → VK → Prop} {t : TA} (h : t σ H fun vs H1 => r vs H1 Q) : tCB r t σ H Q := h
theorem r_call {sp : Sp} {dvs : List V} {E : XK} {t : TA} (h : t σ H fun vs H1 => sp (vs ++ dvs) H1 Q E) : tCall sp dvs E t σ H Q := h
theorem r_make {C : Addr} {sp : Sp} {dvs : List V} {E : XK} {t : TA} (h : t σ H fun vs H1 => ∀ x dx, H1 x = none → H1 dx = none → dx ≠ x →
  sp (.ref x :: (vs ++ dvs)) (upd (upd H1 dx (.own x)) x (.ins C dx [])) (fun v H2 => v = .non ∧ Q (.ref x) H2) E) : tMake C sp dvs E t σ H Q := h
theorem r_meth {C : Addr} {m : Str} {sp : Sp} {dvs : List V} {E : XK} {t : TA} (h : ta σ H (kMeth C m sp dvs E σ t Q)) : tMeth C m sp dvs E ta t σ H Q := h
theorem r_methL {C : Addr} {dx : Addr} {fs : List (Str × V)} {m : Str} {sp : Sp} {dvs : List V} {E : XK} {t : TA} (h : H a = some (.ins C dx fs)) (hl : fs.lookup m = none) (q : t σ H fun vs H2 => sp (.ref a :: (vs ++ dvs)) H2 Q E) : kMeth C m sp dvs E σ t Q (.ref a) H := ⟨a, dx, fs, rfl, h, hl, q⟩
theorem r_fld {f : Str} (h : ta σ H (kFld K f Q)) : tFld K ta f σ H Q := h
theorem r_fldL {C dx : Addr} {fs : List (Str × V)} {f : Str} (h : H a = some (.ins C dx fs)) (hc : Cls K C) (hn : NoAttr K C f) (hl : fs.lookup f = some v) (q : Q v H) : kFld K f Q (.ref a) H := ⟨a, C, dx, fs, v, rfl, h, hc, hn, hl, q⟩
theorem r_sfld {f : Str} (h : tb σ H fun y H1 => ta σ H1 (kSfld K D σ f y)) : sFld K ta tb f D σ H := h
theorem r_test (h : te σ H (kTest QB)) : tTest te σ H QB := h
theorem r_tB (h : te σ H (kTest QB)) : tB te σ H QB := h
theorem r_exb (q : QB b H) : kTest QB (.bl b) H := ⟨b, rfl, q⟩
theorem r_and (h : ct σ H fun c H1 => if c = true then cu σ H1 QB else QB false H1) : tAnd ct cu σ H QB := h
theorem r_or (h : ct σ H fun c H1 => if c = true then QB true H1 else cu σ H1 QB) : tOr ct cu σ H QB := h
theorem r_not (h : ct σ H fun c H1 => QB (!c) H1) : tNot ct σ H QB := h
theorem r_andV (h : ta σ H fun x H1 => ∃ c, x = .bl c ∧ if c = true then tb σ H1 Q else Q (.bl false) H1) : tAndV ta tb σ H Q := h
theorem r_orV (h : ta σ H fun x H1 => ∃ c, x = .bl c ∧ if c = true then Q (.bl true) H1 else tb σ H1 Q) : tOrV ta tb σ H Q := h
theorem r_exbP {A : Bool → Prop} (q : A b) : ∃ c, V.bl b = .bl c ∧ A c := ⟨b, rfl, q⟩
theorem r_notV (h : ta σ H fun x H1 => ∃ c, x = .bl c ∧ Q (.bl (!c)) H1) : tNotV ta σ H Q := h
theorem r_tif (h : c σ H fun b H1 => if b = true then ta σ H1 Q else tb σ H1 Q) : tIf c ta tb σ H Q := h
theorem r_isN (h : ta σ H fun x H1 => Q (.bl (decide (x = .non))) H1) : tIsN ta σ H Q := h
theorem r_notN (h : ta σ H fun x H1 => Q (.bl (!decide (x = .non))) H1) : tNotN ta σ H Q := h
theorem r_tup {t : TA} (h : t σ H (kTup Q)) : tTup t σ H Q := h
theorem r_lst {t : TA} (h : t σ H (kLst Q)) : tLst t σ H Q := h
theorem r_ktup (hl : xs.length ≤ sizeLine) (h : ∀ p, H p = none → Q (.ref p) (upd H p (.tup xs))) : kTup Q xs H := ⟨hl, h⟩
theorem r_klst (hl : xs.length ≤ sizeLine) (h : ∀ p, H p = none → Q (.ref p) (upd H p (.lst xs))) : kLst Q xs H := ⟨hl, h⟩
theorem r_ixl (h : SqL K H p xs) (e : atI xs i = some v) (q : Q v H) : rIxL K (.ref p) (.int i) H Q := ⟨p, xs, i, v, rfl, rfl, h, e, q⟩
theorem r_ixt (h : SqT K H p xs) (e : atI xs i = some v) (q : Q v H) : rIxT K (.ref p) (.int i) H Q := ⟨p, xs, i, v, rfl, rfl, h, e, q⟩
theorem r_int (q : Q (.int i) H) : rInt [V.int i] H Q := .inl ⟨i, rfl, q⟩
theorem r_lenl (h : SqL K H p xs) (q : Q (.int xs.length) H) : rLen K [V.ref p] H Q := ⟨p, xs, rfl, .inl h, q⟩
theorem r_lent (h : SqT K H p xs) (q : Q (.int xs.length) H) : rLen K [V.ref p] H Q := ⟨p, xs, rfl, .inr h, q⟩
theorem r_listl (h : SqL K H p xs) (q : ∀ l, H l = none → Q (.ref l) (upd H l (.lst xs))) : rListOf K [V.ref p] H Q := ⟨p, xs, rfl, .inl h, q⟩
theorem r_listt (h : SqT K H p xs) (q : ∀ l, H l = none → Q (.ref l) (upd H l (.lst xs))) : rListOf K [V.ref p] H Q := ⟨p, xs, rfl, .inr h, q⟩
theorem r_tupl (h : SqL K H p xs) (q : ∀ l, H l = none → Q (.ref l) (upd H l (.tup xs))) : rTupOf K [V.ref p] H Q := ⟨p, xs, rfl, .inl ⟨h, q⟩⟩
theorem r_tupt (h : SqT K H p xs) (q : Q (.ref p) H) : rTupOf K [V.ref p] H Q := ⟨p, xs, rfl, .inr ⟨h, q⟩⟩
theorem r_in {neg : Bool} (h : SqL K H p xs ∨ SqT K H p xs) (fx : flatV x = true) (fs : xs.all flatV = true) (q : Q (.bl (if neg = true then !inV x xs else inV x xs)) H) : rIn K neg x (.ref p) H Q := ⟨p, xs, rfl, h, fx, fs, q⟩
theorem r_bm {T : String} {r : V → List V → Hp → VK → Prop} {t : TA} (h : ta σ H fun x H1 => tyV K T x H1 ∧ t σ H1 fun xs H2 => r x xs H2 Q) : tBM K T r ta t σ H Q := h
theorem r_bm0 {T : String} {r : V → List V → Hp → VK → Prop} (h : ta σ H fun x H1 => tyV K T x H1 ∧ r x [] H1 Q) : tBM0 K T r ta σ H Q := h
theorem r_tyl {A : Prop} (h : SqL K H l xs) (q : A) : tyV K "list" (.ref l) H ∧ A := ⟨.inl ⟨rfl, _, h⟩, q⟩
theorem r_app (h : H l = some (.lst xs)) (hl : xs.length < sizeLine) (q : Q .non (upd H l (.lst (xs ++ [v])))) : rAppend (.ref l) [v] H Q := ⟨l, xs, v, rfl, rfl, h, hl, q⟩
theorem r_isi {c : V} {t u : Value} (hc : ClsV c u) (ht : TyX K H x t) (hk : PySem.W.kitOne K t u = some b) (q : Q (.bl b) H) : rIsi K [x, c] H Q := ⟨x, c, t, u, b, rfl, hc, ht, hk, q⟩
theorem r_isb {a b : Bool} (q : Q (.bl (decide (a = b))) H) : rIsB (.bl a) (.bl b) H Q := ⟨a, b, rfl, rfl, q⟩
theorem r_notb {a b : Bool} (q : Q (.bl (!decide (a = b))) H) : rNotB (.bl a) (.bl b) H Q := ⟨a, b, rfl, rfl, q⟩
theorem r_eqd {d e : PyData} (h1 : Dp K H x d) (h2 : Dp K H y e) (s1 : SeqAt.shaped d = true) (s2 : SeqAt.shaped e = true) (q : Q (.bl (PyData.eqv d e)) H) : rEqD K x y H Q := ⟨d, e, h1, h2, s1, s2, q⟩
theorem r_ned {d e : PyData} (h1 : Dp K H x d) (h2 : Dp K H y e) (s1 : SeqAt.shaped d = true) (s2 : SeqAt.shaped e = true) (q : Q (.bl (!PyData.eqv d e)) H) : rNeD K x y H Q := ⟨d, e, h1, h2, s1, s2, q⟩
theorem r_rep {k : Int} (h : H l = some (.lst xs)) (h1 : -(2 ^ 63) ≤ k) (h2 : k < 2 ^ 63) (hz : xs.length * k.toNat ≤ sizeLine) (q : ∀ p, H p = none → Q (.ref p) (upd H p (.lst (List.replicate k.toNat xs).flatten))) : rRep (.ref l) (.int k) H Q := ⟨l, k, xs, rfl, rfl, h, h1, h2, hz, q⟩
theorem r_rep1 {k : Int} (h : H l = some (.lst [v])) (h1 : -1000000 ≤ k) (h2 : k ≤ 1000000) (q : ∀ p, H p = none → Q (.ref p) (upd H p (.lst (List.replicate k.toNat v)))) : rRep (.ref l) (.int k) H Q := ⟨l, k, [v], rfl, rfl, h, by omega, by omega, by rw [sz]; show 1 * _ ≤ _; omega, by
  rw [show (List.replicate k.toNat [v]).flatten = List.replicate k.toNat v from by
    generalize k.toNat = n
    induction n with
    | zero => rfl
    | succ n ih => rw [List.replicate_succ, List.flatten_cons, ih, List.replicate_succ]; rfl]
  exact q⟩
theorem r_cat (h : H l = some (.lst xs)) (h' : H p = some (.lst ys)) (hz : xs.length + ys.length ≤ sizeLine) (q : ∀ r, H r = none → Q (.ref r) (upd H r (.lst (xs ++ ys)))) : rCat (.ref l) (.ref p) H Q := ⟨l, p, xs, ys, rfl, rfl, h, h', hz, q⟩
theorem r_aug {n : Nat} {ti : TIp} (h : σ[n]? = some (some x)) (q : te σ H fun y H1 => ti x y H1 fun z H2 => D.nx (σ.set n (some z)) H2) : tAug n te ti D σ H := ⟨x, h, q⟩
theorem r_ipI {f : Int → Int → Int} (q : Q (.int (f i j)) H) : ipI f (.int i) (.int j) H Q := ⟨i, j, rfl, rfl, q⟩
theorem r_sorted {ns : List Int} (h : SqL K H a (ns.map V.int)) (h64 : ns.length < 64) (q : ∀ (ns' : List Int) (p : Addr), ns'.Perm ns → ns'.Pairwise (· ≤ ·) → H p = none → Q (.ref p) (upd H p (.lst (ns'.map V.int)))) : rSorted K [.ref a] H Q := ⟨a, ns, rfl, h, h64, q⟩
end
/-! slices, texts -/
def kPart (Q : Option Int → Hp → Prop) : V → Hp → Prop := fun x H => ∃ i, x = .int i ∧ Q (some i) H
section
variable {σ : L2.St} {H : Hp} {te : TE} {tl th : TO} {Q : V → Hp → Prop} {QO : Option Int → Hp → Prop} {K : PySem.W.Frag} {a : Addr} {xs : List V} {lo hi : Option Int} {i : Int} {z : Str}
theorem r_sl {r : V → Option Int → Option Int → Hp → VK → Prop} (h : te σ H fun x H1 => tl σ H1 fun l H2 => th σ H2 fun u H3 => r x l u H3 Q) : tSl r te tl th σ H Q := h
theorem r_noP (q : QO none H) : tNoPart σ H QO := q
theorem r_part (h : te σ H (kPart QO)) : tPart te σ H QO := h
theorem r_kPart (q : QO (some i) H) : kPart QO (.int i) H := ⟨i, rfl, q⟩
theorem r_slS (hl : z.length ≤ 1000000) (q : Q (.str (cutS z lo hi)) H) : rSlS (.str z) lo hi H Q := ⟨z, rfl, by rw [sz]; omega, q⟩
theorem r_slL (h : SqL K H a xs) (q : ∀ p, H p = none → Q (.ref p) (upd H p (.lst (cutV xs lo hi)))) : rSlL K (.ref a) lo hi H Q := ⟨a, xs, rfl, h, q⟩
end
/-! loops and comprehensions -/
def kLc (g : TG) (tt : TT) (te : TE) (vs : List Nat) (σ : L2.St) (Q : V → Hp → Prop) : It → Hp → Prop := fun J H1 => ∀ D, H1 D = none → ∃ W : Nat → Nat → Hp → Prop, (∃ m, W 0 m (upd H1 D (.lst []))) ∧ ∀ i m H, W i m H →
  (J.stop i H ∧ Q (.ref D) H) ∨ (J.go i H ∧ ∃ Nx : Hp → Prop, (∀ H', Nx H' → ∃ m', m' < m ∧ W (i + 1) m' H') ∧ ∀ x H', J.yld i H x H' → g x (wipe σ vs) H' fun σ2 H2 => wipe σ2 vs = wipe σ vs ∧ tt σ2 H2 fun b H3 =>
    if b = true then te σ2 H3 fun y H4 => ∃ acc, H4 D = some (.lst acc) ∧ acc.length < sizeLine ∧ Nx (upd H4 D (.lst (acc ++ [y]))) else Nx H3)
def kR1 (R : It → Hp → Prop) : List V → Hp → Prop := fun vs H1 => ∃ j : Int, vs = [.int j] ∧ -(2 ^ 62) ≤ j ∧ j < 2 ^ 62 ∧ R (Itr 0 j.toNat) H1
def kR2 (R : It → Hp → Prop) : List V → Hp → Prop := fun vs H1 => ∃ i j : Int, vs = [.int i, .int j] ∧ (-(2 ^ 62) ≤ i ∧ i < 2 ^ 62 ∧ -(2 ^ 62) ≤ j ∧ j < 2 ^ 62) ∧ R (Itr i (j - i).toNat) H1
def kIl (K : PySem.W.Frag) (R : It → Hp → Prop) : V → Hp → Prop := fun x H1 => ∃ a, x = .ref a ∧ (∃ xs, SqL K H1 a xs) ∧ R (Itl K a) H1
def kIt (K : PySem.W.Frag) (R : It → Hp → Prop) : V → Hp → Prop := fun x H1 => ∃ a, x = .ref a ∧ (∃ xs, SqT K H1 a xs) ∧ R (Itt K a) H1
def kFor (g : TG) (tb : TS) (D : Ends) (σ : L2.St) : It → Hp → Prop := fun J H1 => ∃ W : Nat → Nat → L2.St → Hp → Prop, (∃ m, W 0 m σ H1) ∧ ∀ i m σ H, W i m σ H →
  (J.stop i H ∧ D.nx σ H) ∨ (J.go i H ∧ ∃ N : L2.St → Hp → Prop, (∀ σ' H', N σ' H' → ∃ m', m' < m ∧ W (i + 1) m' σ' H') ∧ ∀ x H', J.yld i H x H' → g x σ H' fun σ2 H2 => tb { D with nx := N, ct := N, bk := D.nx } σ2 H2)
section
variable {σ : L2.St} {H : Hp} {D : Ends} {te : TE} {ta : TA} {g : TG} {tt : TT} {tb : TS} {wi : TI} {vs : List Nat} {Q : V → Hp → Prop} {R : It → Hp → Prop} {K : PySem.W.Frag} {a : Addr} {xs : List V} {i j : Int}
theorem r_lc (h : wi σ H (kLc g tt te vs σ Q)) : tLc wi g tt te vs σ H Q := h
theorem r_for (h : wi σ H (kFor g tb D σ)) : tFor wi g tb D σ H := h
theorem r_irng1 (h : ta σ H (kR1 R)) : iRng1 ta σ H R := h
theorem r_irng2 (h : ta σ H (kR2 R)) : iRng2 ta σ H R := h
theorem r_ilist (h : te σ H (kIl K R)) : iList K te σ H R := h
theorem r_itup (h : te σ H (kIt K R)) : iTup K te σ H R := h
theorem r_kR1 (h1 : -(2 ^ 62) ≤ j) (h2 : j < 2 ^ 62) (h : R (Itr 0 j.toNat) H) : kR1 R [.int j] H := ⟨j, rfl, h1, h2, h⟩
theorem r_kR2 (h1 : -(2 ^ 62) ≤ i ∧ i < 2 ^ 62 ∧ -(2 ^ 62) ≤ j ∧ j < 2 ^ 62) (h : R (Itr i (j - i).toNat) H) : kR2 R [.int i, .int j] H := ⟨i, j, rfl, h1, h⟩
theorem r_kIl (h1 : SqL K H a xs) (h : R (Itl K a) H) : kIl K R (.ref a) H := ⟨a, rfl, ⟨_, h1⟩, h⟩
theorem r_kIt (h1 : SqT K H a xs) (h : R (Itt K a) H) : kIt K R (.ref a) H := ⟨a, rfl, ⟨_, h1⟩, h⟩
theorem r_forR {lo : Int} {n : Nat} (Pv : Nat → L2.St → Hp → Prop) (h0 : Pv 0 σ H)
    (hs : ∀ i σ H, i < n → Pv i σ H → g (.int (lo + i)) σ H fun σ2 H2 => tb { D with nx := Pv (i + 1), ct := Pv (i + 1), bk := D.nx } σ2 H2) (hd : ∀ σ H, Pv n σ H → D.nx σ H) : kFor g tb D σ (Itr lo n) H := for_range Pv h0 hs hd
theorem r_forL (Pv : Nat → L2.St → Hp → Prop) (h0 : Pv 0 σ H) (hl : ∀ i σ H, i ≤ xs.length → Pv i σ H → SqL K H a xs)
    (hs : ∀ i x σ H, xs[i]? = some x → Pv i σ H → g x σ H fun σ2 H2 => tb { D with nx := Pv (i + 1), ct := Pv (i + 1), bk := D.nx } σ2 H2) (hd : ∀ σ H, Pv xs.length σ H → D.nx σ H) : kFor g tb D σ (Itl K a) H := for_list Pv h0 hl hs hd
theorem r_forT (Pv : Nat → L2.St → Hp → Prop) (h0 : Pv 0 σ H) (hl : ∀ i σ H, i ≤ xs.length → Pv i σ H → SqT K H a xs)
    (hs : ∀ i x σ H, xs[i]? = some x → Pv i σ H → g x σ H fun σ2 H2 => tb { D with nx := Pv (i + 1), ct := Pv (i + 1), bk := D.nx } σ2 H2) (hd : ∀ σ H, Pv xs.length σ H → D.nx σ H) : kFor g tb D σ (Itt K a) H := for_tup Pv h0 hl hs hd
/-- [e for x in range], e an int -/
theorem r_lcI {lo : Int} {n slot : Nat} (P : Nat → Int → Prop) (hn : n ≤ 100000) (hv : vs = [slot])
    (hs : ∀ (i : Nat) (H' : Hp), i < n → L2.Same H H' → ∀ R : V → Hp → Prop, (∀ z : Int, P i z → R (.int z) H') → te ((wipe σ vs).set slot (some (.int (lo + i)))) H' R)
    (q : ∀ (H' : Hp) (l : Addr) (zs : List Int), L2.Same H H' → H l = none → H' l = some (.lst (zs.map V.int)) → zs.length = n → (∀ (i : Nat) (z : Int), zs[i]? = some z → P i z) → Q (.ref l) H') :
    kLc (gName slot) tYes te vs σ Q (Itr lo n) H := by
  intro L hL
  have hw : ∀ (τ : L2.St) (x : V), wipe (τ.set slot (some x)) [slot] = wipe τ [slot] := fun τ x => by simp [wipe, List.set_set]
  have hw2 : wipe (wipe σ vs) vs = wipe σ vs := by subst hv; simp [wipe, List.set_set]
  refine lc_range (fun i H' => ∃ zs : List Int, zs.length = i ∧ H' L = some (.lst (zs.map V.int)) ∧ L2.Same H H' ∧ ∀ (k : Nat) (z : Int), zs[k]? = some z → P k z) ⟨[], rfl, upd_same, fun b o e => by rw [upd_ne (ne_of_none e hL)]; exact e, fun k z e => by simp at e⟩ ?_ ?_
  · rintro i H' hi ⟨zs, el, eL, s, hp⟩
    refine ⟨?_, ?_⟩
    · subst hv
      rw [hw]
      exact hw2
    · show te ((wipe σ vs).set slot (some (.int (lo + i)))) H' _
      refine hs i H' hi s _ fun z hz => ⟨_, eL, ?_, zs ++ [z], ?_, ?_, ?_, ?_⟩
      · rw [List.length_map, el]
        exact Nat.lt_of_lt_of_le (Nat.lt_of_lt_of_le hi hn) (by decide)
      · rw [List.length_append, el]; rfl
      · rw [upd_same, List.map_append]; rfl
      · intro b o e
        rw [upd_ne (ne_of_none e hL)]
        exact s _ _ e
      · intro k y e
        rw [List.getElem?_append] at e
        split at e
        · exact hp k y e
        · rename_i hk
          have ek : k = zs.length := by
            have := (List.getElem?_eq_some_iff.mp e).1
            simp at this
            omega
          subst ek
          simp at e
          rw [el, ← e]
          exact hz
  · rintro H' ⟨zs, el, eL, s, hp⟩
    exact q H' L zs s hL eL el hp
end
/-! named readings for texts, the lesser and the greater of two -/
def rLenS : List V → Hp → VK → Prop := fun xs H Q => ∃ z, xs = [.str z] ∧ z.length ≤ sizeLine ∧ Q (.int z.length) H
theorem c_lenS {X : Cx} : CallR X (.builtin "len") rLenS := call_len_str
def rMin2 : List V → Hp → VK → Prop := fun xs H Q => ∃ i j, xs = [.int i, .int j] ∧ Q (.int (if j < i then j else i)) H
theorem c_min2 {X : Cx} (hc : X.calm = true) : CallR X (.builtin "min") rMin2 := call_min2 hc
def rMax2 : List V → Hp → VK → Prop := fun xs H Q => ∃ i j, xs = [.int i, .int j] ∧ Q (.int (if j > i then j else i)) H
theorem c_max2 {X : Cx} (hc : X.calm = true) : CallR X (.builtin "max") rMax2 := call_max2 hc
def rAddT : R2 := fun x y H Q => ∃ i j, x = .str i ∧ y = .str j ∧ i.length + j.length ≤ sizeLine ∧ Q (.str (i ++ j)) H
theorem op_addT {X : Cx} : OpR X (binaryOp .Add) rAddT := op_add_str
section
variable {H : Hp} {Q : V → Hp → Prop} {z y : Str} {i j : Int}
theorem r_lenS (hl : z.length ≤ 1000000) (q : Q (.int z.length) H) : rLenS [.str z] H Q := ⟨z, rfl, by rw [sz]; omega, q⟩
theorem r_min2 (q : ∀ m : Int, m ≤ i → m ≤ j → m = i ∨ m = j → Q (.int m) H) : rMin2 [.int i, .int j] H Q := ⟨i, j, rfl, by split <;> exact q _ (by omega) (by omega) (by omega)⟩
theorem r_max2 (q : ∀ m : Int, i ≤ m → j ≤ m → m = i ∨ m = j → Q (.int m) H) : rMax2 [.int i, .int j] H Q := ⟨i, j, rfl, by split <;> exact q _ (by omega) (by omega) (by omega)⟩
theorem r_addT (hl : z.length + y.length ≤ 1000000) (q : Q (.str (z ++ y)) H) : rAddT (.str z) (.str y) H Q := ⟨z, y, rfl, rfl, by rw [sz]; omega, q⟩
end
def kIstr (R : It → Hp → Prop) : V → Hp → Prop := fun x H1 => ∃ z, x = .str z ∧ R (Its z) H1
theorem r_istr {te : TE} {σ : L2.St} {H : Hp} {R : It → Hp → Prop} (h : te σ H (kIstr R)) : iStr te σ H R := h
theorem r_kIs {z : Str} {H : Hp} {R : It → Hp → Prop} (h : R (Its z) H) : kIstr R (.str z) H := ⟨z, rfl, h⟩
end Sg
/-! data behind values, as the heap grows -/
namespace Sg
open PySem L2
mutual
theorem Dp.mono {K : PySem.W.Frag} {H H' : Hp} (s : L2.Same H H') : ∀ (d : PyData) (v : V), Dp K H v d → Dp K H' v d
  | .none, _, h => by cases h; exact .non
  | .bool b, _, h => by cases h; exact .bl b
  | .int i, _, h => by cases h; exact .int i
  | .str x, _, h => by cases h; exact .str x
  | .list ds, _, h => by
    cases h with
    | lst hs ha => exact .lst (L2.Same.seq s hs) (DpAll.mono s ds _ ha)
  | .tuple ds, _, h => by
    cases h with
    | tup hs ha => exact .tup (Sg.Same.tup s hs) (DpAll.mono s ds _ ha)
  | .dict _, _, h => by cases h
theorem DpAll.mono {K : PySem.W.Frag} {H H' : Hp} (s : L2.Same H H') : ∀ (ds : List PyData) (vs : List V), DpAll K H vs ds → DpAll K H' vs ds
  | [], _, h => by cases h; exact .nil
  | d :: ds, _, h => by
    cases h with
    | cons h1 h2 => exact .cons (Dp.mono s d _ h1) (DpAll.mono s ds _ h2)
end
theorem DpAll.ints {K : PySem.W.Frag} {H : Hp} : ∀ ns : List Int, DpAll K H (ns.map V.int) (ns.map PyData.int)
  | [] => .nil
  | n :: ns => .cons (.int n) (DpAll.ints ns)
theorem DpAll.at {K : PySem.W.Frag} {H : Hp} : ∀ {vs : List V} {ds : List PyData}, DpAll K H vs ds → ∀ (i : Nat) (v : V), vs[i]? = some v → ∃ d, ds[i]? = some d ∧ Dp K H v d
  | _, _, .nil, i, v, e => by simp at e
  | _, _, .cons h t, 0, v, e => by simp at e; subst e; exact ⟨_, rfl, h⟩
  | _, _, .cons h t, i + 1, v, e => by
    obtain ⟨d, e1, h1⟩ := DpAll.at t i v (by simpa using e)
    exact ⟨d, by simpa using e1, h1⟩
theorem DpAll.length {K : PySem.W.Frag} {H : Hp} : ∀ {vs : List V} {ds : List PyData}, DpAll K H vs ds → vs.length = ds.length
  | _, _, .nil => rfl
  | _, _, .cons _ t => by simp [DpAll.length t]
/-- data that can be compared, at most n deep -/
def Fl (n : Nat) (d : PyData) : Prop := d.canLay0 = true ∧ d.depth ≤ n
theorem Fl.int (i : Int) (n : Nat) : Fl n (.int i) := ⟨by simp [PyData.canLay0], by simp [PyData.depth]⟩
theorem Fl.non (n : Nat) : Fl n .none := ⟨by simp [PyData.canLay0], by simp [PyData.depth]⟩
theorem Fl.bool (b : Bool) (n : Nat) : Fl n (.bool b) := ⟨by simp [PyData.canLay0], by simp [PyData.depth]⟩
theorem Fl.all {n : Nat} : ∀ {ds : List PyData}, (∀ d ∈ ds, Fl n d) → PyData.canLayAll0 ds = true ∧ PyData.depthAll ds ≤ n
  | [], _ => ⟨by simp [PyData.canLayAll0], by simp [PyData.depthAll]⟩
  | d :: ds, h => by
    obtain ⟨h1, h2⟩ := h d List.mem_cons_self
    obtain ⟨h3, h4⟩ := Fl.all (ds := ds) fun x hx => h x (List.mem_cons_of_mem _ hx)
    refine ⟨by simp [PyData.canLayAll0, h1, h3], ?_⟩
    simp only [PyData.depthAll]
    exact Nat.max_le.mpr ⟨h2, h4⟩
theorem Fl.tup {n : Nat} {ds : List PyData} (h : ∀ d ∈ ds, Fl n d) : Fl (n + 1) (.tuple ds) := by
  obtain ⟨h1, h2⟩ := Fl.all h
  exact ⟨by simp [PyData.canLay0, h1], by simp only [PyData.depth]; omega⟩
theorem Fl.lst {n : Nat} {ds : List PyData} (h : ∀ d ∈ ds, Fl n d) : Fl (n + 1) (.list ds) := by
  obtain ⟨h1, h2⟩ := Fl.all h
  exact ⟨by simp [PyData.canLay0, h1], by simp only [PyData.depth]; omega⟩
theorem Fl.mono {n m : Nat} {d : PyData} (h : Fl n d) (hm : n ≤ m) : Fl m d := ⟨h.1, Nat.le_trans h.2 hm⟩
theorem Fl.ints (ns : List Int) : Fl 1 (.tuple (ns.map PyData.int)) := Fl.tup fun d hd => by
  obtain ⟨i, _, rfl⟩ := List.mem_map.mp hd
  exact Fl.int i 0
theorem Fl.intl (ns : List Int) : Fl 1 (.list (ns.map PyData.int)) := Fl.lst fun d hd => by
  obtain ⟨i, _, rfl⟩ := List.mem_map.mp hd
  exact Fl.int i 0
theorem Fl.nil {n : Nat} : ∀ d ∈ ([] : List PyData), Fl n d := fun d h => by cases h
theorem Fl.cons {n : Nat} {d : PyData} {ds : List PyData} (h : Fl n d) (t : ∀ x ∈ ds, Fl n x) : ∀ x ∈ d :: ds, Fl n x := fun x hx => by
  rcases List.mem_cons.mp hx with rfl | hx
  · exact h
  · exact t x hx
theorem Fl.mapi {n : Nat} {ns : List Int} : ∀ d ∈ ns.map PyData.int, Fl n d := fun d hd => by
  obtain ⟨i, _, rfl⟩ := List.mem_map.mp hd
  exact Fl.int i n
theorem Fl.shaped {n : Nat} {d : PyData} (h : Fl n d) (hn : n ≤ 64 := by decide) : SeqAt.shaped d = true := by
  unfold SeqAt.shaped
  rw [h.1, decide_eq_true (Nat.le_trans h.2 hn)]
  rfl
theorem Fl.self {n : Nat} {d : PyData} (h : Fl n d) : PyData.eqv d d = true := SeqAt.eqv_refl d h.1
/-! lists of ints -/
theorem ixN_ok {n : Nat} {k : Int} (h0 : 0 ≤ k) (h1 : k < n) : ixN n k = some k.toNat := by unfold ixN; rw [if_pos h0, if_pos h1]
theorem at_ints {ts : List Int} {k : Int} (h0 : 0 ≤ k) (h1 : k < ts.length) : atI (ts.map V.int) k = some (.int (ts.getD k.toNat 0)) := by
  obtain ⟨n, rfl⟩ := Int.eq_ofNat_of_zero_le h0
  have hn : n < ts.length := by omega
  refine atI_nat ?_
  rw [List.getElem?_map, List.getElem?_eq_getElem hn, List.getD_eq_getElem?_getD, Int.toNat_natCast, List.getElem?_eq_getElem hn]
  rfl
theorem rep_ints (n : Nat) (z : Int) : (List.replicate n [V.int z]).flatten = (List.replicate n z).map V.int := by
  induction n with
  | zero => rfl
  | succ n ih => rw [List.replicate_succ, List.flatten_cons, ih, List.replicate_succ, List.map_cons]; rfl
theorem set_ints (ts : List Int) (n : Nat) (z : Int) : (ts.map V.int).set n (.int z) = (ts.set n z).map V.int := by rw [List.map_set]
theorem eqv_ints {as bs : List Int} : PyData.eqv (.list (as.map PyData.int)) (.list (bs.map PyData.int)) = decide (as = bs) := by
  rw [PyData.eqv]
  induction as generalizing bs with
  | nil => cases bs <;> simp [PyData.eqvAll]
  | cons a as ih =>
    cases bs with
    | nil => simp [PyData.eqvAll]
    | cons b bs =>
      rw [List.map_cons, List.map_cons, PyData.eqvAll, ih, PyData.eqv]
      by_cases e : a = b
      · subst e; simp
      · simp [e]
theorem Dp.ints {K : PySem.W.Frag} {H : Hp} {a : Addr} {ns : List Int} (h : SqL K H a (ns.map V.int)) : Dp K H (.ref a) (.list (ns.map PyData.int)) := .lst h (DpAll.ints ns)
theorem Fl.intlS (ns : List Int) : SeqAt.shaped (.list (ns.map PyData.int)) = true := (Fl.intl ns).shaped
/-! a comprehension over a list, its items anything -/
/-- the heap without the list that grows -/
def hid (D : Addr) (H : Hp) : Hp := fun b => if b = D then none else H b
theorem hid_ne {D b : Addr} {H : Hp} (h : b ≠ D) : hid D H b = H b := by unfold hid; rw [if_neg h]
theorem hid_at {D : Addr} {H : Hp} : hid D H D = none := by unfold hid; rw [if_pos rfl]
theorem hid_same {D : Addr} {H : Hp} : L2.Same (hid D H) H := fun b o e => by
  by_cases hb : b = D
  · rw [hb, hid_at] at e; cases e
  · rw [hid_ne hb] at e; exact e
theorem of_hid {D b : Addr} {H : Hp} {o : HO} (e : hid D H b = some o) : b ≠ D ∧ H b = some o := by
  by_cases hb : b = D
  · rw [hb, hid_at] at e; cases e
  · rw [hid_ne hb] at e; exact ⟨hb, e⟩
theorem same_hid {D : Addr} {H H' : Hp} (s : L2.Same H H') (n : H D = none) : L2.Same H (hid D H') := fun b o e => by
  rw [hid_ne (ne_of_none e n)]; exact s _ _ e
theorem hid_upd {D : Addr} {H : Hp} {o : HO} : hid D (upd H D o) = hid D H := by
  funext b
  by_cases hb : b = D
  · rw [hb, hid_at, hid_at]
  · rw [hid_ne hb, hid_ne hb, upd_ne hb]
theorem hid_none {D : Addr} {H : Hp} (n : H D = none) : hid D H = H := by
  funext b
  by_cases hb : b = D
  · rw [hb, hid_at, n]
  · rw [hid_ne hb]
theorem r_lcL {K : PySem.W.Frag} {a : Addr} {xs : List V} {slot : Nat} {vs : List Nat} {te : TE} {σ : L2.St} {H : Hp} {Q : V → Hp → Prop} (P : Nat → List V → Hp → Prop) (hx : SqL K H a xs) (hn : xs.length ≤ 100000) (hv : vs = [slot])
    (h0 : P 0 [] H)
    (hs : ∀ (i : Nat) (x : V) (acc : List V) (H0 H' : Hp), xs[i]? = some x → L2.Same H H0 → P i acc H0 → L2.Same H0 H' → ∀ R : V → Hp → Prop,
      (∀ (v : V) (H'' : Hp), L2.Same H' H'' → (∀ D, H0 D = none → H' D ≠ none → P (i + 1) (acc ++ [v]) (hid D H'')) → R v H'') → te ((wipe σ vs).set slot (some x)) H' R)
    (q : ∀ (H' : Hp) (l : Addr) (acc : List V), L2.Same H H' → H l = none → H' l = some (.lst acc) → acc.length = xs.length → P xs.length acc (hid l H') → Q (.ref l) H') :
    kLc (gName slot) tYes te vs σ Q (Itl K a) H := by
  intro L hL
  have hw : ∀ (τ : L2.St) (x : V), wipe (τ.set slot (some x)) [slot] = wipe τ [slot] := fun τ x => by simp [wipe, List.set_set]
  have hw2 : wipe (wipe σ vs) vs = wipe σ vs := by subst hv; simp [wipe, List.set_set]
  refine lc_list (xs := xs) (fun i H' => ∃ acc : List V, acc.length = i ∧ H' L = some (.lst acc) ∧ L2.Same H H' ∧ P i acc (hid L H')) ⟨[], rfl, upd_same, fun b o e => by rw [upd_ne (ne_of_none e hL)]; exact e, by rw [hid_upd, hid_none hL]; exact h0⟩ ?_ ?_ ?_
  · rintro i H' hi ⟨acc, _, _, s, _⟩
    exact s.seq hx
  · rintro i x H' hi ⟨acc, el, eL, s, hp⟩
    refine ⟨?_, ?_⟩
    · subst hv
      rw [hw]
      exact hw2
    · show te ((wipe σ vs).set slot (some x)) H' _
      refine hs i x acc (hid L H') H' hi (same_hid s hL) hp hid_same _ fun v H'' s2 hP => ⟨acc, s2 _ _ eL, ?_, acc ++ [v], ?_, upd_same, ?_, ?_⟩
      · have := (List.getElem?_eq_some_iff.mp hi).1
        rw [el, sz]
        omega
      · rw [List.length_append, el]; rfl
      · intro b o e
        rw [upd_ne (ne_of_none e hL)]
        exact s2 _ _ (s _ _ e)
      · rw [hid_upd]
        exact hP L hid_at (by rw [eL]; intro z; cases z)
  · rintro H' ⟨acc, el, eL, s, hp⟩
    exact q H' L acc s hL eL el hp
end Sg
namespace Sg
open PySem L2
def top (i : Nat) : Stmt := PySem.Challenge.pw_segmentfs_k14_regions_that_hold_a_checkp.main.body.getD i (.Pass ⟨0, 0, 0, 0⟩)
abbrev s_Layout___init : Stmt := inClass (top 8) 0
abbrev s_region_start : Stmt := top 9
abbrev s_parts_of : Stmt := top 10
abbrev s_read_numbers : Stmt := top 13
abbrev s_checkpoint_in : Stmt := top 15
abbrev s_Device___init : Stmt := inClass (top 17) 0
abbrev s_Device_read : Stmt := inClass (top 17) 1
abbrev s_Device_write : Stmt := inClass (top 17) 2
abbrev s_Device_pending : Stmt := inClass (top 17) 6
abbrev s_Device__takes_place : Stmt := inClass (top 17) 11
abbrev s_put_block : Stmt := top 18
abbrev s_law_row : Stmt := top 20
abbrev s_law_digits : Stmt := top 21
abbrev s_law_layout : Stmt := top 22
abbrev s_law_table : Stmt := top 23
abbrev s_law_numbers : Stmt := top 24
abbrev s_law_parts : Stmt := top 25
abbrev s_law_spoilt : Stmt := top 26
abbrev s_law_holds : Stmt := top 27
abbrev s_law : Stmt := top 28
abbrev n_Layout___init : List Str := ["self", "segments", "segment_blocks", "block_size"]
theorem sc_Layout___init : FnScope n_Layout___init ["self", "segments", "segment_blocks", "block_size"] (defScope s_Layout___init) := ⟨rfl, rfl, rfl, by decide +kernel, rfl, by decide +kernel, by decide +kernel⟩
abbrev n_region_start : List Str := ["layout", "region"]
theorem sc_region_start : FnScope n_region_start ["layout", "region"] (defScope s_region_start) := ⟨rfl, rfl, rfl, by decide +kernel, rfl, by decide +kernel, by decide +kernel⟩
abbrev n_parts_of : List Str := ["number", "size"]
theorem sc_parts_of : FnScope n_parts_of ["number", "size"] (defScope s_parts_of) := ⟨rfl, rfl, rfl, by decide +kernel, rfl, by decide +kernel, by decide +kernel⟩
abbrev n_read_numbers : List Str := ["layout", "numbers", "size", "slots", "slot", "start", "taken", "addresses", "head", "place", "count", "queue_end"]
theorem sc_read_numbers : FnScope n_read_numbers ["layout", "numbers"] (defScope s_read_numbers) := ⟨rfl, rfl, rfl, by decide +kernel, rfl, by decide +kernel, by decide +kernel⟩
abbrev n_checkpoint_in : List Str := ["device", "region", "start", "first", "numbers", "rank", "block"]
theorem sc_checkpoint_in : FnScope n_checkpoint_in ["device", "region"] (defScope s_checkpoint_in) := ⟨rfl, rfl, rfl, by decide +kernel, rfl, by decide +kernel, by decide +kernel⟩
abbrev n_Device___init : List Str := ["self", "layout", "blocks"]
theorem sc_Device___init : FnScope n_Device___init ["self", "layout", "blocks"] (defScope s_Device___init) := ⟨rfl, rfl, rfl, by decide +kernel, rfl, by decide +kernel, by decide +kernel⟩
abbrev n_Device_read : List Str := ["self", "address"]
theorem sc_Device_read : FnScope n_Device_read ["self", "address"] (defScope s_Device_read) := ⟨rfl, rfl, rfl, by decide +kernel, rfl, by decide +kernel, by decide +kernel⟩
abbrev n_Device_write : List Str := ["self", "address", "block"]
theorem sc_Device_write : FnScope n_Device_write ["self", "address", "block"] (defScope s_Device_write) := ⟨rfl, rfl, rfl, by decide +kernel, rfl, by decide +kernel, by decide +kernel⟩
abbrev n_Device_pending : List Str := ["self"]
theorem sc_Device_pending : FnScope n_Device_pending ["self"] (defScope s_Device_pending) := ⟨rfl, rfl, rfl, by decide +kernel, rfl, by decide +kernel, by decide +kernel⟩
abbrev n_Device__takes_place : List Str := ["self"]
theorem sc_Device__takes_place : FnScope n_Device__takes_place ["self"] (defScope s_Device__takes_place) := ⟨rfl, rfl, rfl, by decide +kernel, rfl, by decide +kernel, by decide +kernel⟩
abbrev n_put_block : List Str := ["blocks", "address", "block"]
theorem sc_put_block : FnScope n_put_block ["blocks", "address", "block"] (defScope s_put_block) := ⟨rfl, rfl, rfl, by decide +kernel, rfl, by decide +kernel, by decide +kernel⟩
abbrev n_law_row : List Str := ["script", "k", "cell", "first", "second"]
theorem sc_law_row : FnScope n_law_row ["script", "k"] (defScope s_law_row) := ⟨rfl, rfl, rfl, by decide +kernel, rfl, by decide +kernel, by decide +kernel⟩
abbrev n_law_digits : List Str := ["row", "sizes", "digits", "size"]
theorem sc_law_digits : FnScope n_law_digits ["row", "sizes"] (defScope s_law_digits) := ⟨rfl, rfl, rfl, by decide +kernel, rfl, by decide +kernel, by decide +kernel⟩
abbrev n_law_layout : List Str := ["row", "choice", "more", "size", "segments", "blocks", "ids"]
theorem sc_law_layout : FnScope n_law_layout ["row"] (defScope s_law_layout) := ⟨rfl, rfl, rfl, by decide +kernel, rfl, by decide +kernel, by decide +kernel⟩
abbrev n_law_table : List Str := ["layout", "row", "most", "table", "step", "start", "many", "key"]
theorem sc_law_table : FnScope n_law_table ["layout", "row", "most"] (defScope s_law_table) := ⟨rfl, rfl, rfl, by decide +kernel, rfl, by decide +kernel, by decide +kernel⟩
abbrev n_law_numbers : List Str := ["layout", "script", "at", "taken", "head", "place", "count", "numbers", "k"]
theorem sc_law_numbers : FnScope n_law_numbers ["layout", "script", "at"] (defScope s_law_numbers) := ⟨rfl, rfl, rfl, by decide +kernel, rfl, by decide +kernel, by decide +kernel⟩
abbrev n_law_parts : List Str := ["layout", "numbers", "sequence", "parts", "k"]
theorem sc_law_parts : FnScope n_law_parts ["layout", "numbers", "sequence"] (defScope s_law_parts) := ⟨rfl, rfl, rfl, by decide +kernel, rfl, by decide +kernel, by decide +kernel⟩
abbrev n_law_spoilt : List Str := ["layout", "parts", "numbers", "fault", "at", "change", "part", "spoilt", "wrong"]
theorem sc_law_spoilt : FnScope n_law_spoilt ["layout", "parts", "numbers", "fault", "at", "change"] (defScope s_law_spoilt) := ⟨rfl, rfl, rfl, by decide +kernel, rfl, by decide +kernel, by decide +kernel⟩
abbrev n_law_holds : List Str := ["device", "region", "sequence", "numbers", "told"]
theorem sc_law_holds : FnScope n_law_holds ["device", "region", "sequence", "numbers"] (defScope s_law_holds) := ⟨rfl, rfl, rfl, by decide +kernel, rfl, by decide +kernel, by decide +kernel⟩
abbrev n_law : List Str := ["script", "layout", "parts", "region", "fault", "at", "change", "sequence", "numbers", "others", "good", "other", "spoilt", "blocks", "k", "device"]
theorem sc_law : FnScope n_law ["script"] (defScope s_law) := ⟨rfl, rfl, rfl, by decide +kernel, rfl, by decide +kernel, by decide +kernel⟩
structure Txt (K : PySem.W.Frag) (mg : Str → Option Value) where
  a_Layout___init : Addr
  fd_Layout___init : FuncData
  a_region_start : Addr
  fd_region_start : FuncData
  a_parts_of : Addr
  fd_parts_of : FuncData
  a_read_numbers : Addr
  fd_read_numbers : FuncData
  a_checkpoint_in : Addr
  fd_checkpoint_in : FuncData
  a_Device___init : Addr
  fd_Device___init : FuncData
  a_Device_read : Addr
  fd_Device_read : FuncData
  a_Device_write : Addr
  fd_Device_write : FuncData
  a_Device_pending : Addr
  fd_Device_pending : FuncData
  a_Device__takes_place : Addr
  fd_Device__takes_place : FuncData
  a_put_block : Addr
  fd_put_block : FuncData
  a_law_row : Addr
  fd_law_row : FuncData
  a_law_digits : Addr
  fd_law_digits : FuncData
  a_law_layout : Addr
  fd_law_layout : FuncData
  a_law_table : Addr
  fd_law_table : FuncData
  a_law_numbers : Addr
  fd_law_numbers : FuncData
  a_law_parts : Addr
  fd_law_parts : FuncData
  a_law_spoilt : Addr
  fd_law_spoilt : FuncData
  a_law_holds : Addr
  fd_law_holds : FuncData
  a_law : Addr
  fd_law : FuncData
  A_Layout : Addr
  A_Device : Addr
  a_BLOCK_SIZES : Addr
  t_PART : Tok
  t_SLOTS : Tok
  t_SUMMARY_HEAD : Tok
  F_Layout___init : Fun K "__init__" "Layout.__init__" s_Layout___init a_Layout___init fd_Layout___init
  b_Layout___init : Binds K fd_Layout___init ["self", "segments", "segment_blocks", "block_size"] []
  F_region_start : Fun K "region_start" "region_start" s_region_start a_region_start fd_region_start
  b_region_start : Binds K fd_region_start ["layout", "region"] []
  m_region_start : mg "region_start" = some (.ref a_region_start)
  F_parts_of : Fun K "parts_of" "parts_of" s_parts_of a_parts_of fd_parts_of
  b_parts_of : Binds K fd_parts_of ["number", "size"] []
  m_parts_of : mg "parts_of" = some (.ref a_parts_of)
  F_read_numbers : Fun K "read_numbers" "read_numbers" s_read_numbers a_read_numbers fd_read_numbers
  b_read_numbers : Binds K fd_read_numbers ["layout", "numbers"] []
  m_read_numbers : mg "read_numbers" = some (.ref a_read_numbers)
  F_checkpoint_in : Fun K "checkpoint_in" "checkpoint_in" s_checkpoint_in a_checkpoint_in fd_checkpoint_in
  b_checkpoint_in : Binds K fd_checkpoint_in ["device", "region"] []
  m_checkpoint_in : mg "checkpoint_in" = some (.ref a_checkpoint_in)
  F_Device___init : FunD K "__init__" "Device.__init__" (defArgs s_Device___init) (defBody s_Device___init) (defScope s_Device___init) [V.non] [] a_Device___init fd_Device___init
  b_Device___init : Binds K fd_Device___init ["self", "layout", "blocks"] []
  F_Device_read : Fun K "read" "Device.read" s_Device_read a_Device_read fd_Device_read
  b_Device_read : Binds K fd_Device_read ["self", "address"] []
  me_Device_read : Meth K A_Device "read" a_Device_read
  F_Device_write : Fun K "write" "Device.write" s_Device_write a_Device_write fd_Device_write
  b_Device_write : Binds K fd_Device_write ["self", "address", "block"] []
  me_Device_write : Meth K A_Device "write" a_Device_write
  F_Device_pending : Fun K "pending" "Device.pending" s_Device_pending a_Device_pending fd_Device_pending
  b_Device_pending : Binds K fd_Device_pending ["self"] []
  me_Device_pending : Meth K A_Device "pending" a_Device_pending
  F_Device__takes_place : Fun K "_takes_place" "Device._takes_place" s_Device__takes_place a_Device__takes_place fd_Device__takes_place
  b_Device__takes_place : Binds K fd_Device__takes_place ["self"] []
  me_Device__takes_place : Meth K A_Device "_takes_place" a_Device__takes_place
  F_put_block : Fun K "_put_block" "_put_block" s_put_block a_put_block fd_put_block
  b_put_block : Binds K fd_put_block ["blocks", "address", "block"] []
  m_put_block : mg "_put_block" = some (.ref a_put_block)
  F_law_row : Fun K "_law_row" "_law_row" s_law_row a_law_row fd_law_row
  b_law_row : Binds K fd_law_row ["script", "k"] []
  m_law_row : mg "_law_row" = some (.ref a_law_row)
  F_law_digits : Fun K "_law_digits" "_law_digits" s_law_digits a_law_digits fd_law_digits
  b_law_digits : Binds K fd_law_digits ["row", "sizes"] []
  m_law_digits : mg "_law_digits" = some (.ref a_law_digits)
  F_law_layout : Fun K "_law_layout" "_law_layout" s_law_layout a_law_layout fd_law_layout
  b_law_layout : Binds K fd_law_layout ["row"] []
  m_law_layout : mg "_law_layout" = some (.ref a_law_layout)
  F_law_table : Fun K "_law_table" "_law_table" s_law_table a_law_table fd_law_table
  b_law_table : Binds K fd_law_table ["layout", "row", "most"] []
  m_law_table : mg "_law_table" = some (.ref a_law_table)
  F_law_numbers : Fun K "_law_numbers" "_law_numbers" s_law_numbers a_law_numbers fd_law_numbers
  b_law_numbers : Binds K fd_law_numbers ["layout", "script", "at"] []
  m_law_numbers : mg "_law_numbers" = some (.ref a_law_numbers)
  F_law_parts : Fun K "_law_parts" "_law_parts" s_law_parts a_law_parts fd_law_parts
  b_law_parts : Binds K fd_law_parts ["layout", "numbers", "sequence"] []
  m_law_parts : mg "_law_parts" = some (.ref a_law_parts)
  F_law_spoilt : Fun K "_law_spoilt" "_law_spoilt" s_law_spoilt a_law_spoilt fd_law_spoilt
  b_law_spoilt : Binds K fd_law_spoilt ["layout", "parts", "numbers", "fault", "at", "change"] []
  m_law_spoilt : mg "_law_spoilt" = some (.ref a_law_spoilt)
  F_law_holds : Fun K "_law_holds" "_law_holds" s_law_holds a_law_holds fd_law_holds
  b_law_holds : Binds K fd_law_holds ["device", "region", "sequence", "numbers"] []
  m_law_holds : mg "_law_holds" = some (.ref a_law_holds)
  F_law : Fun K "law" "law" s_law a_law fd_law
  b_law : Binds K fd_law ["script"] []
  m_law : mg "law" = some (.ref a_law)
  m_Layout : mg "Layout" = some (.ref A_Layout)
  cl_Layout : Cls K A_Layout
  M_Layout : Mk K A_Layout a_Layout___init
  na_Layout_segments : NoAttr K A_Layout "segments"
  na_Layout_segment_blocks : NoAttr K A_Layout "segment_blocks"
  na_Layout_block_size : NoAttr K A_Layout "block_size"
  na_Layout_payload : NoAttr K A_Layout "payload"
  na_Layout_limit : NoAttr K A_Layout "limit"
  na_Layout_last_id : NoAttr K A_Layout "last_id"
  na_Layout_fan : NoAttr K A_Layout "fan"
  na_Layout_region_blocks : NoAttr K A_Layout "region_blocks"
  na_Layout_device_blocks : NoAttr K A_Layout "device_blocks"
  m_Device : mg "Device" = some (.ref A_Device)
  cl_Device : Cls K A_Device
  M_Device : Mk K A_Device a_Device___init
  na_Device_layout : NoAttr K A_Device "layout"
  na_Device__sure : NoAttr K A_Device "_sure"
  na_Device__shown : NoAttr K A_Device "_shown"
  na_Device__unsure : NoAttr K A_Device "_unsure"
  na_Device__commands_left : NoAttr K A_Device "_commands_left"
  na_Device__power_is_off : NoAttr K A_Device "_power_is_off"
  c_BLOCK_SIZES : mg "BLOCK_SIZES" = some (.ref a_BLOCK_SIZES)
  r_BLOCK_SIZES : RelV (.ref a_BLOCK_SIZES) (.ref a_BLOCK_SIZES)
  v_BLOCK_SIZES : ∀ H : Hp, SqT K H a_BLOCK_SIZES [.int 64, .int 128, .int 256]
  c_PART : mg "PART" = some (.int 5 t_PART)
  r_PART : RelV (.int 5) (.int 5 t_PART)
  c_SLOTS : mg "SLOTS" = some (.int 3 t_SLOTS)
  r_SLOTS : RelV (.int 3) (.int 3 t_SLOTS)
  c_SUMMARY_HEAD : mg "SUMMARY_HEAD" = some (.int 16 t_SUMMARY_HEAD)
  r_SUMMARY_HEAD : RelV (.int 16) (.int 16 t_SUMMARY_HEAD)
  n_any : mg "any" = none
  n_bool : mg "bool" = none
  n_int : mg "int" = none
  n_isinstance : mg "isinstance" = none
  n_len : mg "len" = none
  n_list : mg "list" = none
  n_range : mg "range" = none
  n_tuple : mg "tuple" = none
end Sg
namespace Sg
open PySem L2
local macro_rules | `(tactic| walk_at "size") => `(tactic| first | ((simp only [List.length_append, List.length_cons, List.length_nil, List.length_map, Sg.sz]) <;> omega) | (rw [Sg.sz]; simp <;> omega))
local macro_rules | `(tactic| walk_at "side") => `(tactic| first | with_reducible rfl | with_reducible assumption | (show (_ : Int) < _; omega) | omega | (simp only [List.length_map]; omega) | assumption | rfl | decide | exact Or.inr ⟨by decide, by decide⟩ | exact Or.inl ⟨by decide, by decide⟩ | exact Or.inr ⟨by omega, by omega⟩ | exact Or.inl ⟨by omega, by omega⟩ | exact ⟨by omega, by omega⟩ | exact ⟨by decide, by decide, by decide⟩ | (simp; done))
local macro_rules | `(tactic| walk_at "hp") => `(tactic| first | assumption | (refine' L2.SqT.of ?h1; (case h1 => walk_at "hp")) | (refine' L2.SqL.of ?h1; (case h1 => walk_at "hp")) | (refine' Sg.Same.tup ?h1 ?h2; (case h1 => assumption); (case h2 => walk_at "hp")) | (refine' L2.Same.seq ?h1 ?h2; (case h1 => assumption); (case h2 => walk_at "hp")) | (refine' (show L2.Same _ _ from ?h1) _ _ ?h2; (case h1 => assumption); (case h2 => walk_at "hp")) | (refine' Sg.at_keep ?he ?h1 ?h2 ?h3; (case he => assumption); (case h1 => walk_at "hp"); (case h2 => walk_at "hp"); (case h3 => (intro z; cases z))))
local macro_rules | `(tactic| walk_at "al") => `(tactic| (intro p hn; generalize hH : upd _ _ _ = H'; have hs := Sg.Same.of_new hH hn; have ho := Sg.at_new hH; clear hH))
local macro_rules | `(tactic| walk_at "sm1") => `(tactic| first | (refine' L2.Same.trans ?ha ?hb; (case hb => assumption)) | (refine' Sg.Same.old ?ha ?hb ?hc; (case hc => assumption); (case hb => walk_at "nn")))
local macro_rules | `(tactic| walk_at "sm") => `(tactic| first | exact L2.Same.refl _ | assumption | (walk_at "sm1"; walk_at "sm"))
local macro_rules | `(tactic| walk_at "nn") => `(tactic| first | assumption | ((refine' L2.Same.free ?ha ?hb; (case hb => assumption)); walk_at "sm"))
local macro_rules | `(tactic| walk_at "dp") => `(tactic| first | assumption | exact L2.Dp.int _ | exact L2.Dp.non | exact L2.Dp.bl _ | exact L2.Dp.str _ | (refine' L2.Dp.tup ?ha ?hb; (case ha => walk_at "hp"); (case hb => walk_at "dpa")) | (refine' L2.Dp.lst ?ha ?hb; (case ha => walk_at "hp"); (case hb => walk_at "dpa")))
local macro_rules | `(tactic| walk_at "dpa") => `(tactic| first | assumption | exact L2.DpAll.nil | exact Sg.DpAll.ints _ | (refine' L2.DpAll.cons ?ha ?hb; (case ha => walk_at "dp"); (case hb => walk_at "dpa")))
local macro_rules | `(tactic| walk_at "fl") => `(tactic| first | assumption | exact Sg.Fl.int _ _ | exact Sg.Fl.non _ | exact Sg.Fl.bool _ _ | (refine' Sg.Fl.tup ?ha; (case ha => walk_at "fla")) | (refine' Sg.Fl.lst ?ha; (case ha => walk_at "fla")))
local macro_rules | `(tactic| walk_at "fla") => `(tactic| first | assumption | exact Sg.Fl.nil | exact Sg.Fl.mapi | (refine' Sg.Fl.cons ?ha ?hb; (case ha => walk_at "fl"); (case hb => walk_at "fla")))
local macro_rules | `(tactic| walk_at "tyx") => `(tactic| first | exact L2.TyX.base (L2.TyOf.int _) | exact L2.TyX.base (L2.TyOf.bl _) | exact L2.TyX.base L2.TyOf.non | exact L2.TyX.base (L2.TyOf.str _) | (refine' L2.TyX.base (L2.TyOf.tup ?ha); (case ha => walk_at "hp")) | (refine' L2.TyX.base (L2.TyOf.lst ?ha); (case ha => walk_at "hp")) | (refine' L2.TyX.base (L2.TyOf.frz ?ha); (case ha => walk_at "hp")))
local macro_rules | `(tactic| walk_at "up") => `(tactic| (generalize hH : upd _ _ _ = H'; have ho := Sg.at_new hH))
local macro_rules | `(tactic| walk_at "lk") => `(tactic| first | with_reducible assumption | with_reducible exact Sg.lk_eq | (refine' Sg.lk_ne ?ha ?hb; (case ha => decide +kernel); (case hb => walk_at "lk")) | (refine' Sg.lk_no ?ha ?hb; (case ha => decide +kernel); (case hb => walk_at "lk")) | rfl)
local macro_rules | `(tactic| walk_at "few") => `(tactic| first | assumption | omega | decide | (refine' Nat.lt_of_le_of_lt (Sg.putF_len ?ha) ?hb; (case ha => walk_at "fewi"); (case hb => decide)))
local macro_rules | `(tactic| walk_at "fewi") => `(tactic| first | assumption | (refine' Sg.putF_len ?ha; (case ha => walk_at "fewi")) | exact Nat.le_refl _)
local macro_rules | `(tactic| walk_at "rd1") => `(tactic| with_reducible (first | refine' Sg.r_seq ?_ | refine' Sg.r_asg ?_ | refine' Sg.r_gname ?_ | (refine' Sg.r_var (by with_unfolding_all rfl) ?_) | refine' Sg.r_c ?_ | refine' Sg.r_op ?_ | refine' Sg.r_un ?_ | refine' Sg.r_cb ?_ | refine' Sg.r_cons ?_ | refine' Sg.r_nil ?_ | (refine' Sg.r_mod ?hc ?_; (case hc => (with_unfolding_all walk_at "side")); (intro z hz z0 z1)) | (refine' Sg.r_rI ?hc ?_; (case hc => (with_unfolding_all walk_at "side"))) | refine' Sg.r_rI0 ?_ | refine' Sg.r_rU ?_ | refine' Sg.r_int ?_ | refine' Sg.r_eqi ?_ | refine' Sg.r_nei ?_ | (refine' Sg.r_ixl ?h ?e ?_; (case h => (with_unfolding_all walk_at "hp")); (case e => (with_unfolding_all rfl))) | (refine' Sg.r_ixt ?h ?e ?_; (case h => (with_unfolding_all walk_at "hp")); (case e => (with_unfolding_all rfl))) | (refine' Sg.r_lenl ?h ?_; (case h => (with_unfolding_all walk_at "hp"))) | (refine' Sg.r_lent ?h ?_; (case h => (with_unfolding_all walk_at "hp"))) | refine' Sg.r_test ?_ | refine' Sg.r_exb ?_ | refine' Sg.r_tB ?_ | refine' Sg.r_exbP ?_ | refine' Sg.r_ifs ?_ | refine' Sg.r_and ?_ | refine' Sg.r_or ?_ | refine' Sg.r_not ?_ | refine' Sg.r_andV ?_ | refine' Sg.r_orV ?_ | refine' Sg.r_notV ?_ | refine' Sg.r_tif ?_ | refine' Sg.r_isN ?_ | refine' Sg.r_notN ?_ | refine' Sg.r_ret ?_ | refine' Sg.r_drop ?_ | refine' Sg.r_next ?_ | refine' Sg.r_call ?_ | refine' Sg.r_make ?_ | refine' Sg.r_meth ?_ | refine' Sg.r_fld ?_ | refine' Sg.r_sfld ?_ | refine' Sg.r_chain ?_ | (refine' Sg.r_fldL ?h ?hc ?hn ?hl ?_; (case h => (with_unfolding_all walk_at "hp")); (case hc => assumption); (case hn => assumption); (case hl => (with_unfolding_all walk_at "lk"))) | (refine' Sg.r_sfldL ?h ?hc ?hn ?hl ?_; (case h => (with_unfolding_all walk_at "hp")); (case hc => assumption); (case hn => assumption); (case hl => (with_unfolding_all walk_at "few")); (with_unfolding_all walk_at "up")) | (refine' Sg.r_gunl ?h ?hl ?_; (case h => (with_unfolding_all walk_at "hp")); (case hl => (with_unfolding_all walk_at "side"))) | (refine' Sg.r_gtup ?h ?hl ?_; (case h => (with_unfolding_all walk_at "hp")); (case hl => (with_unfolding_all walk_at "side"))) | (refine' Sg.r_methL ?h ?hl ?_; (case h => (with_unfolding_all walk_at "hp")); (case hl => (with_unfolding_all walk_at "lk"))) | refine' Sg.r_tup ?_ | refine' Sg.r_lst ?_ | (refine' Sg.r_ktup ?hl ?_; (case hl => (with_unfolding_all first | exact Nat.le_of_ble_eq_true rfl | decide)); (with_unfolding_all walk_at "al")) | (refine' Sg.r_klst ?hl ?_; (case hl => (with_unfolding_all first | exact Nat.le_of_ble_eq_true rfl | decide)); (with_unfolding_all walk_at "al")) | (refine' Sg.r_listl ?h ?_; (case h => (with_unfolding_all walk_at "hp")); (with_unfolding_all walk_at "al")) | (refine' Sg.r_listt ?h ?_; (case h => (with_unfolding_all walk_at "hp")); (with_unfolding_all walk_at "al")) | (refine' Sg.r_tupl ?h ?_; (case h => (with_unfolding_all walk_at "hp")); (with_unfolding_all walk_at "al")) | (refine' Sg.r_tupt ?h ?_; (case h => (with_unfolding_all walk_at "hp"))) | (refine' Sg.r_in (.inr ?h) ?fx ?fs ?_; (case h => (with_unfolding_all walk_at "hp")); (case fx => (with_unfolding_all rfl)); (case fs => (with_unfolding_all rfl))) | (refine' Sg.r_in (.inl ?h) ?fx ?fs ?_; (case h => (with_unfolding_all walk_at "hp")); (case fx => (with_unfolding_all rfl)); (case fs => (with_unfolding_all rfl))) | (refine' Sg.r_sorted ?h ?h64 ?_; (case h => (with_unfolding_all walk_at "hp")); (case h64 => (with_unfolding_all walk_at "side")); (intro ns' p perm rising; revert p; (with_unfolding_all walk_at "al"))) | (refine' Sg.r_app ?h ?hl ?_; (case h => (with_unfolding_all walk_at "hp")); (case hl => (with_unfolding_all walk_at "size")); (with_unfolding_all walk_at "up")) | refine' Sg.r_lc ?_ | refine' Sg.r_for ?_ | refine' Sg.r_irng1 ?_ | refine' Sg.r_irng2 ?_ | refine' Sg.r_ilist ?_ | refine' Sg.r_itup ?_ | (refine' Sg.r_kR1 ?h1 ?h2 ?_; (case h1 => (with_unfolding_all walk_at "side")); (case h2 => (with_unfolding_all walk_at "side"))) | (refine' Sg.r_kR2 ?h1 ?_; (case h1 => (with_unfolding_all refine ⟨?_, ?_, ?_, ?_⟩ <;> walk_at "side"))) | (refine' Sg.r_kIl ?h ?_; (case h => (with_unfolding_all walk_at "hp"))) | (refine' Sg.r_kIt ?h ?_; (case h => (with_unfolding_all walk_at "hp"))) | refine' Sg.r_bm ?_ | refine' Sg.r_bm0 ?_ | (refine' Sg.r_tyl ?h ?_; (case h => (with_unfolding_all walk_at "hp"))) | refine' Sg.r_nonR ?_ | refine' Sg.r_nonN ?_ | refine' Sg.r_isR ?_ | refine' Sg.r_isNN ?_ | refine' Sg.r_nonI ?_ | refine' Sg.r_isI ?_ | refine' L2.iteT ?_ | refine' L2.iteF ?_ | refine' Sg.r_gcons ?_ | refine' Sg.r_gnil ?_ | refine' Sg.r_gsub ?_ | refine' Sg.r_isb ?_ | refine' Sg.r_notb ?_ | (refine' Sg.r_aug (by with_unfolding_all rfl) ?_) | refine' Sg.r_ipI ?_ | (refine' Sg.r_isi (b := true) (L2.ClsV.ty _) ?ht ?hk ?_; (case ht => (with_unfolding_all walk_at "tyx")); (case hk => (with_unfolding_all exact L2.kit_ty (by decide +kernel)))) | (refine' Sg.r_isi (b := false) (L2.ClsV.ty _) ?ht ?hk ?_; (case ht => (with_unfolding_all walk_at "tyx")); (case hk => (with_unfolding_all exact L2.kit_ty (by decide +kernel)))) | refine' Sg.r_gmap ?_ | refine' Sg.r_gmapn ?_ | (refine' Sg.r_iteb ?hb ?_; (case hb => (with_unfolding_all rfl))) | (refine' Sg.r_iteB ?hb ?_; (case hb => (with_unfolding_all rfl)))))
local macro_rules | `(tactic| walk_at "rd") => `(tactic| repeat walk_at "rd1")
local macro_rules | `(tactic| walk_at "rdo") => `(tactic| repeat (first | walk_at "rd1" | (with_reducible refine' Sg.r_iteD ?hc ?_; (case hc => first | assumption | omega)) | (with_reducible refine' Sg.r_iteDn ?hc ?_; (case hc => first | assumption | omega)) | (with_reducible refine' Sg.r_iteND ?hc ?_; (case hc => first | assumption | omega)) | (with_reducible refine' Sg.r_iteNDn ?hc ?_; (case hc => first | assumption | omega))))
local macro_rules | `(tactic| walk_at "rd1") => `(tactic| with_reducible (first | refine' Sg.r_istr ?_ | refine' Sg.r_kIs ?_ | refine' Sg.r_eqb ?_ | refine' Sg.r_isS ?_ | refine' Sg.r_nonS ?_ | refine' Sg.r_eqs ?_ | refine' Sg.r_nes ?_ | refine' Sg.r_sl ?_ | refine' Sg.r_noP ?_ | refine' Sg.r_part ?_ | refine' Sg.r_kPart ?_ | (refine' Sg.r_slL ?h ?_; (case h => (with_unfolding_all walk_at "hp")); (with_unfolding_all walk_at "al"))))
local macro_rules | `(tactic| walk_at "szle") => `(tactic| (rw [Sg.sz]; (try simp only [List.length_map, List.length_append, List.length_cons, List.length_nil, List.length_replicate]); omega))
local macro_rules | `(tactic| walk_at "rd1") => `(tactic| with_reducible (first | (refine' Sg.r_cat ?h ?h' ?hz ?_; (case h => (with_unfolding_all walk_at "hp")); (case h' => (with_unfolding_all walk_at "hp")); (case hz => (with_unfolding_all walk_at "szle")); (with_unfolding_all walk_at "al")) | (refine' Sg.r_rep1 ?h ?h1 ?h2 ?_; (case h => (with_unfolding_all walk_at "hp")); (case h1 => omega); (case h2 => omega); (with_unfolding_all walk_at "al"))))
local macro_rules | `(tactic| walk_at "rd1") => `(tactic| with_reducible (first | (refine' Sg.r_lenS ?hl ?_; (case hl => omega)) | (refine' Sg.r_min2 ?_; (intro m hm1 hm2 hm3)) | (refine' Sg.r_max2 ?_; (intro m hm1 hm2 hm3)) | (refine' Sg.r_addT ?hl ?_; (case hl => omega))))
local macro_rules | `(tactic| walk_at "ca1") => `(tactic| fail)
local macro_rules | `(tactic| walk_at "pr") => `(tactic| first | assumption | omega | walk_at "hp" | exact L2.upd_same | rfl | trivial | decide)
local macro_rules | `(tactic| walk_at "it1") => `(tactic| with_reducible (first | (refine' Sg.r_iteD ?hc ?_; (case hc => first | assumption | omega)) | (refine' Sg.r_iteDn ?hc ?_; (case hc => first | assumption | omega)) | (refine' Sg.r_iteND ?hc ?_; (case hc => first | assumption | omega)) | (refine' Sg.r_iteNDn ?hc ?_; (case hc => first | assumption | omega))))
local macro_rules | `(tactic| walk_at "go1") => `(tactic| first | walk_at "rd1" | walk_at "rx1" | walk_at "ca1" | walk_at "it1")
local macro_rules | `(tactic| walk_at "go") => `(tactic| repeat walk_at "go1")
local macro_rules | `(tactic| walk_at "gs") => `(tactic| repeat' (first | walk_at "go1" | with_reducible refine' Sg.r_ite (fun _ => ?_) (fun _ => ?_) | with_reducible refine' Sg.r_iteN (fun _ => ?_) (fun _ => ?_)))
-- imports: HandS.NoneIn HandS.Defaults HandS.TupMul HandS.Zip HandS.SetFor HandS.SetKeys HandS.Walk HandS.MakeKwOnly HandS.Style KE.GoesEnum PyProof.ConsumeWalk
-- auto
section
variable {P : Program} {w : World} {K : PySem.W.Frag} {mg : Str → Option Value} {base : Heap}
/-! ### numbers drawn from the script -/
def sp_row (K : PySem.W.Frag) : Sp := fun vs H Q _ => ∃ (a : Addr) (ns : List Int) (k : Int), vs = [.ref a, .int k] ∧ SqL K H a (ns.map V.int) ∧ ns.length ≤ 63 ∧ 0 ≤ k ∧ k ≤ 1000 ∧ ∀ z : Int, 0 ≤ z → Q (.int z) H
theorem ok_law_row (T : Txt K mg) : FnOk P w K mg base CX0 1 T.a_law_row T.fd_law_row ["script", "k"] (sp_row K) := by
  refine T.F_law_row.ok sc_law_row (fun vs H Q E h => ?_) (fun cdv A outer s H vs Q E hr h => ?_)
  · obtain ⟨a, ns, k, rfl, _⟩ := h
    rfl
  · refine ⟨_, (pss_cons (ps_set (i := 2) sc_law_row.nd rfl (Or.inl rfl) pe_int)
       (C8.pss_cut (ps_if (pt_cmpR op_gt (pe_callB (c_len) (by rfl) T.n_len (by decide +kernel) (pa_cons (pv 0) pa_nil)) pe_int (nomark _))
       (pss_one (ps_set (i := 2) sc_law_row.nd rfl (Or.inl rfl) (pe_ix ix_list (pv 0) (pe_op op_mod (pe_callTy c_int (by rfl) T.n_int (by decide +kernel) (pa_cons (pv 1) pa_nil)) (pe_callB (c_len) (by rfl) T.n_len (by decide +kernel) (pa_cons (pv 0) pa_nil))) (fun _ _ => rfl))))
       pss_nil)
       (C8.pss_cut (ps_if (pt_cmpR op_lt (pv 2) pe_int (nomark _))
       (pss_one (ps_set (i := 2) sc_law_row.nd rfl (Or.inl rfl) (pe_op op_sub pe_int (pe_op op_mul pe_int (pv 2)))))
       pss_nil)
       (C8.pss_cut (ps_if (PW.pt (pw_and (pt_cmpR op_ge (pv 2) (pe_op op_pow pe_int pe_int) (nomark _)) (pw_and1 (pt_cmpR op_lt (pv 1) (pe_callB (c_len) (by rfl) T.n_len (by decide +kernel) (pa_cons (pv 0) pa_nil)) (nomark _)))))
       (pss_one (ps_ret (pv 2)))
       pss_nil)
       (pss_cons (ps_set (i := 3) sc_law_row.nd rfl (Or.inl rfl) (pe_op op_mod (pe_callTy c_int (by rfl) T.n_int (by decide +kernel) (pa_cons (pe_op op_add (pe_op op_add (pe_op op_mul (pv 2) pe_int) (pe_op op_mul (pe_op op_add (pv 1) pe_int) pe_int)) (pe_callB (c_len) (by rfl) T.n_len (by decide +kernel) (pa_cons (pv 0) pa_nil))) pa_nil)) pe_int))
       (pss_cons (ps_set (i := 4) sc_law_row.nd rfl (Or.inl rfl) (pe_op op_mod (pe_callTy c_int (by rfl) T.n_int (by decide +kernel) (pa_cons (pe_op op_add (pe_op op_add (pe_op op_mul (pv 3) (pv 3)) (pe_op op_mul (pv 2) pe_int)) (pv 1)) pa_nil)) pe_int))
       (pss_one (ps_ret (pe_op op_add (pe_op op_mul (pv 4) pe_int) (pe_op op_mod (pe_callTy c_int (by rfl) T.n_int (by decide +kernel) (pa_cons (pe_op op_mul (pv 3) pe_int) pa_nil)) pe_int)))))))))), ?_⟩
    try dsimp only [cxOf, Cx.nox, Cx.wish]
    obtain ⟨a, ns, k, rfl, hS, h63, k0, k1, q⟩ := h
    walk_at "rd"
    refine r_cut (fun σ' H' => ∃ z : Int, σ' = [some (.ref a), some (.int k), some (.int z), none, none] ∧ H = H') ?_ ?_
    · walk_at "rd"
      refine r_ite (fun hlen => ?_) (fun _ => ?_)
      · rw [List.length_map] at hlen
        walk_at "rd"
        rename_i z hz z0 z1
        rw [List.length_map] at z1
        refine r_ixl hS (v := .int (ns.getD z.toNat 0)) ?_ ?_
        · obtain ⟨n, rfl⟩ := Int.eq_ofNat_of_zero_le z0
          refine atI_nat ?_
          have hn : n < ns.length := by omega
          rw [List.getElem?_map, List.getElem?_eq_getElem hn, List.getD_eq_getElem?_getD, Int.toNat_natCast, List.getElem?_eq_getElem hn]
          rfl
        · walk_at "rd"
          exact ⟨_, rfl, rfl⟩
      · exact ⟨0, rfl, rfl⟩
    · rintro _ _ ⟨z, rfl, rfl⟩
      walk_at "rd"
      refine r_cut (fun σ' H' => ∃ z : Int, 0 ≤ z ∧ σ' = [some (.ref a), some (.int k), some (.int z), none, none] ∧ H = H') ?_ ?_
      · walk_at "rd"
        refine r_ite (fun _ => ?_) (fun _ => ?_)
        · walk_at "rd"
          exact ⟨_, by omega, rfl, rfl⟩
        · exact ⟨_, by omega, rfl, rfl⟩
      · rintro _ _ ⟨y, y0, rfl, rfl⟩
        walk_at "rd"
        refine r_cutS ?_ ?_
        · walk_at "rd"
          refine r_ite (fun _ => ?_) (fun _ => ?_)
          · walk_at "rd"
            refine r_ite (fun _ => ?_) (fun _ => ?_)
            · walk_at "rd"
              exact q _ y0
            · exact ⟨rfl, rfl⟩
          · walk_at "rd"
            exact ⟨rfl, rfl⟩
        · walk_at "rd"
          exact q _ (by omega)
/-- digits by their sizes -/
abbrev Digs (ds ss : List Int) : Prop := Paired (fun (d s : Int) => 0 ≤ d ∧ d < s) ds ss
def sp_digits (K : PySem.W.Frag) : Sp := fun vs H Q _ => ∃ (r : Int) (l : Addr) (ss : List Int), vs = [.int r, .ref l] ∧ SqL K H l (ss.map V.int) ∧ ss.length ≤ 1000 ∧ (∀ s ∈ ss, 0 < s ∧ s < 1000000000000000000) ∧
  ∀ H' d (ds : List Int), Same H H' → H d = none → H' d = some (.lst (ds.map V.int)) → Digs ds ss → Q (.ref d) H'
theorem paired_snoc {α β : Type} {F : α → β → Prop} : ∀ {xs : List α} {ys : List β} {x : α} {y : β}, Paired F xs ys → F x y → Paired F (xs ++ [x]) (ys ++ [y])
  | _, _, _, _, .nil, h => .cons h .nil
  | _, _, _, _, .cons r t, h => .cons r (paired_snoc t h)
theorem ok_law_digits (T : Txt K mg) : FnOk P w K mg base CX0 1 T.a_law_digits T.fd_law_digits ["row", "sizes"] (sp_digits K) := by
  refine T.F_law_digits.ok sc_law_digits (fun vs H Q E h => ?_) (fun cdv A outer s H vs Q E hr h => ?_)
  · obtain ⟨r, l, ss, rfl, _⟩ := h
    rfl
  · refine ⟨_, (pss_cons (ps_set (i := 2) sc_law_digits.nd rfl (Or.inl rfl) (pe_lst pa_nil))
       (pss_cons (ps_for PassesOwn.never rfl (pi_list (pv 1)) (pg_name (i := 3) sc_law_digits.nd rfl (Or.inl rfl))
       (pss_cons (ps_expr (pe_bm PySem.F.plainAttrs_list PySem.F.slot_list_append PySem.F.type_list_append mt_append (pv 2) (pa_cons (pe_op op_mod (pe_callTy c_int (by rfl) T.n_int (by decide +kernel) (pa_cons (pv 0) pa_nil)) (pv 3)) pa_nil)))
       (pss_one (ps_set (i := 0) sc_law_digits.nd rfl (Or.inl rfl) (pe_op op_fdivW (pv 0) (pv 3))))))
       (pss_one (ps_ret (pv 2))))), ?_⟩
    try dsimp only [cxOf, Cx.nox, Cx.wish]
    obtain ⟨r, l, ss, rfl, hS, hlen, hss, q⟩ := h
    walk_at "rd"
    rename_i p hn H1 s1 h1
    refine r_forL (xs := ss.map V.int) (fun i σ' H' => ∃ (z : Int) (ds : List Int) (v : Option V), σ' = [some (.int z), some (.ref l), some (.ref p), v] ∧ Same H H' ∧ H' p = some (.lst (ds.map V.int)) ∧ Digs ds (ss.take i)) ?_ ?_ ?_ ?_
    · exact ⟨r, [], none, rfl, s1, h1, .nil⟩
    · rintro i σ' H' _ ⟨z, ds, v, rfl, s2, h2, hd⟩
      exact s2.seq hS
    · rintro i x σ' H' hx ⟨z, ds, v, rfl, s2, h2, hd⟩
      rw [List.getElem?_map] at hx
      obtain ⟨y, hy, rfl⟩ := Option.map_eq_some_iff.mp hx
      obtain ⟨y0, y1⟩ := hss y (List.mem_of_getElem? hy)
      have hdl : ds.length ≤ 1000 := by
        rw [Paired.length hd, List.length_take]
        omega
      walk_at "rd"
      rename_i d hd1 d0 d1 H3 e3 h3
      refine ⟨_, _, rfl, rfl, wide_div (b := 64) y0 (by omega) (by decide) (by decide), ?_⟩
      walk_at "rd"
      refine ⟨_, ds ++ [d], _, rfl, Sg.Same.old s2 hn e3, ?_, ?_⟩
      · rw [h3, List.map_append]
        rfl
      · have e : ss.take (i + 1) = ss.take i ++ [y] := by rw [List.take_add_one, hy]; rfl
        rw [e]
        exact paired_snoc hd ⟨d0, d1⟩
    · rintro σ' H' ⟨z, ds, v, rfl, s2, h2, hd⟩
      rw [List.length_map, List.take_length] at hd
      walk_at "rd"
      exact q _ _ _ s2 hn h2 hd
def sp_parts_of : Sp := fun vs H Q _ => ∃ n s : Int, vs = [.int n, .int s] ∧ 0 < s ∧ s < 1073741824 ∧ Q (.int ((n + s - 1) / s)) H
theorem ok_parts_of (T : Txt K mg) : FnOk P w K mg base CX0 1 T.a_parts_of T.fd_parts_of ["number", "size"] sp_parts_of := by
  refine T.F_parts_of.ok sc_parts_of (fun vs H Q E h => ?_) (fun cdv A outer s H vs Q E hr h => ?_)
  · obtain ⟨n, s, rfl, _⟩ := h
    rfl
  · refine ⟨_, (pss_one (ps_ret (pe_op op_fdiv (pe_op op_sub (pe_op op_add (pv 0) (pv 1)) pe_int) (pv 1)))), ?_⟩
    try dsimp only [cxOf, Cx.nox, Cx.wish]
    obtain ⟨n, s, rfl, h1, h2, q⟩ := h
    walk_at "rd"
    exact q
/-! ### layouts -/
/-- the numbers of a layout -/
structure Lay where
  seg : Int
  blk : Int
  size : Int
  pay : Int
  lim : Int
  last : Int
  fan : Int
  reg : Int
  dev : Int
def layOf (s b z : Int) : Lay := ⟨s, b, z, b - 1, (s - 2) * (b - 1), (s - 2) * (b - 1) + (b - 1), z / 2, (2 * (4 * ((s - 2) * (b - 1) + (b - 1)) + 6 + s) + z - 1) / z, 2 * ((2 * (4 * ((s - 2) * (b - 1) + (b - 1)) + 6 + s) + z - 1) / z) + s * b⟩
/-- three sizes that a layout can have -/
structure Fits (s b z : Int) : Prop where
  s0 : 4 ≤ s
  s1 : s ≤ 16
  b0 : 16 ≤ b
  b1 : b ≤ 32
  zz : z = 64 ∨ z = 128 ∨ z = 256
  fit : 16 + 2 * (b - 1) + ((s - 2) * (b - 1) + (b - 1) + 8 - 1) / 8 ≤ z
/-- the fields of a layout -/
structure LayFs (L : Lay) (fs : List (Str × V)) : Prop where
  seg : fs.lookup ("segments" : Str) = some (V.int L.seg)
  blk : fs.lookup ("segment_blocks" : Str) = some (V.int L.blk)
  size : fs.lookup ("block_size" : Str) = some (V.int L.size)
  pay : fs.lookup ("payload" : Str) = some (V.int L.pay)
  lim : fs.lookup ("limit" : Str) = some (V.int L.lim)
  last : fs.lookup ("last_id" : Str) = some (V.int L.last)
  fan : fs.lookup ("fan" : Str) = some (V.int L.fan)
  reg : fs.lookup ("region_blocks" : Str) = some (V.int L.reg)
  dev : fs.lookup ("device_blocks" : Str) = some (V.int L.dev)
def LayAt (C : Addr) (L : Lay) (H : Hp) (p : Addr) : Prop := ∃ dx fs, H p = some (.ins C dx fs) ∧ LayFs L fs
theorem LayAt.mono {C : Addr} {L : Lay} {H H' : Hp} {p : Addr} (s : Same H H') (h : LayAt C L H p) : LayAt C L H' p := by
  obtain ⟨dx, fs, h1, h2⟩ := h
  exact ⟨dx, fs, s _ _ h1, h2⟩
def sp_layout (C : Addr) : Sp := fun vs H Q _ => ∃ (p dx : Addr) (s b z : Int), vs = [.ref p, .int s, .int b, .int z] ∧ H p = some (.ins C dx []) ∧ Fits s b z ∧
  ∀ H' fs, (∀ q, q ≠ p → H' q = H q) → H' p = some (.ins C dx fs) → LayFs (layOf s b z) fs → Q .non H'
theorem in_sizes {z : Int} (h : z = 64 ∨ z = 128 ∨ z = 256) : (!inV (V.int z) [V.int 64, V.int 128, V.int 256]) = false := by
  rcases h with rfl | rfl | rfl <;> decide
theorem keep1 {H H1 H' : Hp} {p : Addr} {o : HO} (h : ∀ q, q ≠ p → H1 q = H q) (e : upd H1 p o = H') : ∀ q, q ≠ p → H' q = H q := fun q hq => by
  rw [← e, upd_ne hq]
  exact h q hq
theorem ok_Layout___init (T : Txt K mg) : FnOk P w K mg base CX0 2 T.a_Layout___init T.fd_Layout___init ["self", "segments", "segment_blocks", "block_size"] (sp_layout T.A_Layout) := by
  refine T.F_Layout___init.ok sc_Layout___init (fun vs H Q E h => ?_) (fun cdv A outer s H vs Q E hr h => ?_)
  · obtain ⟨p, dx, s, b, z, rfl, _⟩ := h
    rfl
  · refine ⟨_, (pss_cons (ps_if (pt_not (pt_chain op_le op_le pe_int (pv 1) pe_int))
       (pss_one ps_never)
       pss_nil)
       (pss_cons (ps_if (pt_not (pt_chain op_le op_le pe_int (pv 2) pe_int))
       (pss_one ps_never)
       pss_nil)
       (pss_cons (ps_if (pt_cmpR op_notIn_seq (pv 3) (pe_glob rfl T.c_BLOCK_SIZES T.r_BLOCK_SIZES) (by with_unfolding_all rfl))
       (pss_one ps_never)
       pss_nil)
       (pss_cons (ps_fld (pv 0) (pv 1) rfl)
       (pss_cons (ps_fld (pv 0) (pv 2) rfl)
       (pss_cons (ps_fld (pv 0) (pv 3) rfl)
       (pss_cons (ps_fld (pv 0) (pe_op op_sub (pv 2) pe_int) rfl)
       (pss_cons (ps_fld (pv 0) (pe_op op_mul (pe_op op_sub (pv 1) pe_int) (pe_fld (pv 0) rfl)) rfl)
       (pss_cons (ps_fld (pv 0) (pe_op op_add (pe_fld (pv 0) rfl) (pe_fld (pv 0) rfl)) rfl)
       (pss_cons (ps_fld (pv 0) (pe_op op_fdiv (pv 3) pe_int) rfl)
       (pss_cons (ps_fld (pv 0) (pe_call (ok_parts_of T) (hr.mono (by decide)) rfl T.m_parts_of T.F_parts_of.kp T.b_parts_of .nil pass0 (pa_cons (pe_op op_mul pe_int (pe_op op_add (pe_op op_add (pe_op op_mul pe_int (pe_fld (pv 0) rfl)) pe_int) (pv 1))) (pa_cons (pv 3) pa_nil))) rfl)
       (pss_cons (ps_fld (pv 0) (pe_op op_add (pe_op op_mul pe_int (pe_fld (pv 0) rfl)) (pe_op op_mul (pv 1) (pv 2))) rfl)
       (pss_one (ps_if (pt_cmpR op_gt (pe_op op_add (pe_op op_add (pe_glob rfl T.c_SUMMARY_HEAD T.r_SUMMARY_HEAD) (pe_op op_mul pe_int (pe_fld (pv 0) rfl))) (pe_call (ok_parts_of T) (hr.mono (by decide)) rfl T.m_parts_of T.F_parts_of.kp T.b_parts_of .nil pass0 (pa_cons (pe_fld (pv 0) rfl) (pa_cons pe_int pa_nil)))) (pv 3) (nomark _))
       (pss_one ps_never)
       pss_nil)))))))))))))), ?_⟩
    try dsimp only [cxOf, Cx.nox, Cx.wish]
    obtain ⟨p, dx, s, b, z, rfl, hp, hF, q⟩ := h
    obtain ⟨s0, s1, b0, b1, hz, fit⟩ := hF
    have cl := T.cl_Layout
    have na1 := T.na_Layout_segments
    have na2 := T.na_Layout_segment_blocks
    have na3 := T.na_Layout_block_size
    have na4 := T.na_Layout_payload
    have na5 := T.na_Layout_limit
    have na6 := T.na_Layout_last_id
    have na7 := T.na_Layout_fan
    have na8 := T.na_Layout_region_blocks
    have na9 := T.na_Layout_device_blocks
    walk_at "rdo"
    refine r_in (.inr (T.v_BLOCK_SIZES _)) rfl rfl ?_
    walk_at "rd"
    refine r_iteB (in_sizes hz) ?_
    walk_at "rdo"
    refine ⟨_, _, rfl, by omega, by omega, ?_⟩
    walk_at "rdo"
    refine ⟨_, _, rfl, by omega, by omega, ?_⟩
    walk_at "rdo"
    refine q _ _ ?kk (by walk_at "hp") ⟨by walk_at "lk", by walk_at "lk", by walk_at "lk", by walk_at "lk", by walk_at "lk", by walk_at "lk", by walk_at "lk", by walk_at "lk", by walk_at "lk"⟩
    case kk =>
      repeat (refine keep1 ?_ (by assumption))
      exact fun _ _ => rfl
/-- the sizes of a law's layout -/
def sp_lawlay (C : Addr) : Sp := fun vs H Q _ => ∃ r : Int, vs = [.int r] ∧ ∀ (s b z : Int) (H' : Hp) (p : Addr), Fits s b z → Same H H' → H p = none → LayAt C (layOf s b z) H' p → Q (.ref p) H'
theorem made_same {H H1 : Hp} {x dx : Addr} {o : HO} (nx : H x = none) (nd : H dx = none) (k : ∀ q, q ≠ x → H1 q = upd (upd H dx (.own x)) x o q) : Same H H1 := fun b u e => by
  rw [k b (ne_of_none e nx), upd_ne (ne_of_none e nx), upd_ne (ne_of_none e nd)]
  exact e
theorem ok_law_layout (T : Txt K mg) : FnOk P w K mg base CX0 4 T.a_law_layout T.fd_law_layout ["row"] (sp_lawlay T.A_Layout) := by
  refine T.F_law_layout.ok sc_law_layout (fun vs H Q E h => ?_) (fun cdv A outer s H vs Q E hr h => ?_)
  · obtain ⟨r, rfl, _⟩ := h
    rfl
  · refine ⟨_, (pss_cons (ps_asg (pe_call (ok_law_digits T) (hr.mono (by decide)) rfl T.m_law_digits T.F_law_digits.kp T.b_law_digits .nil pass0 (pa_cons (pv 0) (pa_cons (pe_lst (pa_cons pe_int (pa_cons pe_int (pa_cons pe_int (pa_cons pe_int (pa_cons pe_int pa_nil)))))) pa_nil))) (pg_unl (by rfl) (pgs_cons (pg_name (i := 1) sc_law_layout.nd rfl (Or.inl rfl)) (pgs_cons (pg_name (i := 2) sc_law_layout.nd rfl (Or.inl rfl)) (pgs_cons (pg_name (i := 3) sc_law_layout.nd rfl (Or.inl rfl)) (pgs_cons (pg_name (i := 4) sc_law_layout.nd rfl (Or.inl rfl)) (pgs_cons (pg_name (i := 5) sc_law_layout.nd rfl (Or.inl rfl)) pgs_nil)))))))
       (C8.pss_cut (ps_if (pt_cmpR op_eq (pv 1) pe_int (nomark _))
       (pss_cons (ps_set (i := 4) sc_law_layout.nd rfl (Or.inl rfl) (pe_op op_add pe_int (pv 4)))
       (pss_cons (ps_set (i := 5) sc_law_layout.nd rfl (Or.inl rfl) (pe_op op_add pe_int (pv 5)))
       (pss_one (ps_set (i := 3) sc_law_layout.nd rfl (Or.inl rfl) (pe_ix ix_list (pe_lst (pa_cons pe_int (pa_cons pe_int (pa_cons pe_int pa_nil)))) (pv 3) (fun _ _ => rfl))))))
       (pss_cons (ps_set (i := 4) sc_law_layout.nd rfl (Or.inl rfl) (pe_op op_add pe_int (pe_op op_mul (pv 2) (pe_op op_fdiv (pv 1) pe_int))))
       (pss_cons (ps_set (i := 5) sc_law_layout.nd rfl (Or.inl rfl) pe_int)
       (pss_one (ps_set (i := 3) sc_law_layout.nd rfl (Or.inl rfl) pe_int)))))
       (pss_cons (ps_set (i := 6) sc_law_layout.nd rfl (Or.inl rfl) (pe_op op_mul (pe_op op_sub (pv 4) pe_int) (pe_op op_sub (pv 5) pe_int)))
       (pss_cons (ps_if (pt_cmpR op_gt (pe_op op_add (pe_op op_add pe_int (pe_op op_mul pe_int (pe_op op_sub (pv 5) pe_int))) (pe_op op_fdiv (pe_op op_add (pv 6) pe_int) pe_int)) (pv 3) (nomark _))
       (pss_one (ps_ret (pe_make T.M_Layout (ok_Layout___init T) (hr.mono (by decide)) rfl T.m_Layout T.b_Layout___init .nil pass0 (pa_cons pe_int (pa_cons pe_int (pa_cons pe_int pa_nil))))))
       pss_nil)
       (pss_one (ps_ret (pe_make T.M_Layout (ok_Layout___init T) (hr.mono (by decide)) rfl T.m_Layout T.b_Layout___init .nil pass0 (pa_cons (pv 4) (pa_cons (pv 5) (pa_cons (pv 3) pa_nil)))))))))), ?_⟩
    try dsimp only [cxOf, Cx.nox, Cx.wish]
    obtain ⟨r, rfl, q⟩ := h
    walk_at "rd"
    refine ⟨_, _, [4, 3, 3, 13, 17], rfl, by walk_at "hp", by decide, by decide, fun H1 d ds s1 n1 h1 hd => ?_⟩
    obtain _ | ⟨⟨c0, c1⟩, _ | ⟨⟨m0, m1⟩, _ | ⟨⟨z0, z1⟩, _ | ⟨⟨g0, g1⟩, _ | ⟨⟨b0, b1⟩, _ | _⟩⟩⟩⟩⟩ := hd
    rename_i choice more size segments blocks
    walk_at "rd"
    refine r_cut (fun σ' H' => ∃ s b z : Int, 4 ≤ s ∧ s ≤ 16 ∧ 16 ≤ b ∧ b ≤ 32 ∧ (z = 64 ∨ z = 128 ∨ z = 256) ∧ σ' = [some (.int r), some (.int choice), some (.int more), some (.int z), some (.int s), some (.int b), none] ∧ Same H1 H') ?_ ?_
    · walk_at "rd"
      refine r_ite (fun e => ?_) (fun _ => ?_)
      · walk_at "rd"
        have e3 : size = 0 ∨ size = 1 ∨ size = 2 := by omega
        rcases e3 with rfl | rfl | rfl
        · refine r_ixl (by walk_at "hp") rfl ?_
          walk_at "rd"
          exact ⟨_, _, _, by omega, by omega, by omega, by omega, .inl rfl, rfl, by walk_at "sm"⟩
        · refine r_ixl (by walk_at "hp") rfl ?_
          walk_at "rd"
          exact ⟨_, _, _, by omega, by omega, by omega, by omega, .inr (.inl rfl), rfl, by walk_at "sm"⟩
        · refine r_ixl (by walk_at "hp") rfl ?_
          walk_at "rd"
          exact ⟨_, _, _, by omega, by omega, by omega, by omega, .inr (.inr rfl), rfl, by walk_at "sm"⟩
      · walk_at "rd"
        have hc : choice / 2 = 0 ∨ choice / 2 = 1 := by omega
        rcases hc with hc | hc <;> rw [hc] <;> exact ⟨_, _, _, by omega, by omega, by omega, by omega, .inl rfl, rfl, by walk_at "sm"⟩
    rintro _ H2 ⟨s, b, z, s0, s1', b0', b1', hz, rfl, s2⟩
    walk_at "rd"
    have en : (s - 2) * (b - 1) + (b - 1) = (s - 1) * (b - 1) := by
      have e : s - 1 = (s - 2) + 1 := by omega
      rw [e, Int.add_mul, Int.one_mul]
    refine r_ite (fun _ => ?_) (fun hle => ?_)
    · walk_at "rd"
      intro x dx nx nd ne
      have hF : Fits 4 16 64 := ⟨by decide, by decide, by decide, by decide, .inl rfl, by decide⟩
      refine ⟨x, dx, _, _, _, rfl, upd_same, hF, fun H3 fs k h3 hL => ⟨rfl, ?_⟩⟩
      have s3 := made_same nx nd k
      exact q _ _ _ _ _ hF (by walk_at "sm") (by walk_at "nn") ⟨_, _, h3, hL⟩
    · walk_at "rd"
      intro x dx nx nd ne
      have hF : Fits s b z := ⟨s0, s1', b0', b1', hz, by rw [en]; omega⟩
      refine ⟨x, dx, _, _, _, rfl, upd_same, hF, fun H3 fs k h3 hL => ⟨rfl, ?_⟩⟩
      have s3 := made_same nx nd k
      exact q _ _ _ _ _ hF (by walk_at "sm") (by walk_at "nn") ⟨_, _, h3, hL⟩

/-! ### walking rules for numbers drawn from the script, layouts and tables -/
theorem i_row {K : PySem.W.Frag} {args_ : List V} {H : Hp} {Q : V → Hp → Prop} {E : XK} {a : Addr} {ns : List Int} {k : Int} (ev : args_ = [.ref a, .int k]) (hS : SqL K H a (ns.map V.int)) (h63 : ns.length ≤ 63) (k0 : 0 ≤ k) (k1 : k ≤ 1000) (q : ∀ z : Int, 0 ≤ z → Q (.int z) H) : sp_row K args_ H Q E := ⟨a, ns, k, ev, hS, h63, k0, k1, q⟩
local macro_rules | `(tactic| walk_at "ca1") => `(tactic| with_reducible (refine' Sg.i_row ?ev ?hS ?h63 ?k0 ?k1 ?_; (case ev => (with_unfolding_all rfl)); (case hS => (with_unfolding_all walk_at "pr")); (case h63 => (with_unfolding_all walk_at "pr")); (case k0 => (with_unfolding_all walk_at "pr")); (case k1 => (with_unfolding_all walk_at "pr")); intros))

/-- digits one by one -/
def DQ : List Int → (List Int → Prop) → Prop
  | [], k => k []
  | s :: r, k => ∀ d : Int, 0 ≤ d → d < s → DQ r fun ds => k (d :: ds)
theorem DQ.of : ∀ {ss ds : List Int} {k : List Int → Prop}, DQ ss k → Digs ds ss → k ds
  | [], _, _, h, .nil => h
  | s :: r, d :: ds, k, h, .cons hd t => DQ.of (ss := r) (ds := ds) (k := fun ds => k (d :: ds)) (h d hd.1 hd.2) t
def AreInts (vs : List V) (ss : List Int) : Prop := Paired (fun v s => v = V.int s) vs ss
theorem AreInts.map : ∀ {vs : List V} {ss : List Int}, AreInts vs ss → vs = ss.map V.int
  | _, _, .nil => rfl
  | _, _, .cons h t => by rw [h, AreInts.map t]; rfl
theorem AreInts.nil : AreInts [] [] := Paired.nil
theorem AreInts.cons {vs : List V} {ss : List Int} {s : Int} (t : AreInts vs ss) : AreInts (.int s :: vs) (s :: ss) := Paired.cons rfl t
def InR (ss : List Int) : Prop := ∀ s ∈ ss, 0 < s ∧ s < 1000000000000000000
theorem InR.nil : InR [] := fun _ h => nomatch h
theorem InR.cons {s : Int} {ss : List Int} (h0 : 0 < s) (h1 : s < 1000000000000000000) (t : InR ss) : InR (s :: ss) := fun x hx => by
  rcases List.mem_cons.mp hx with rfl | hx
  · exact ⟨h0, h1⟩
  · exact t x hx
theorem i_digits {K : PySem.W.Frag} {args_ : List V} {H : Hp} {Q : V → Hp → Prop} {E : XK} {r : Int} {l : Addr} {vs : List V} {ss : List Int} (ev : args_ = [.int r, .ref l]) (hS : SqL K H l vs) (hv : AreInts vs ss) (hl : ss.length ≤ 1000) (hss : InR ss)
    (q : DQ ss fun ds => ∀ H' d, Same H H' → H d = none → H' d = some (.lst (ds.map V.int)) → Q (.ref d) H') : sp_digits K args_ H Q E :=
  ⟨r, l, ss, ev, hv.map ▸ hS, hl, hss, fun H' d ds s n h hd => DQ.of q hd H' d s n h⟩
local macro_rules | `(tactic| walk_at "arei") => `(tactic| first | exact Sg.AreInts.nil | (refine' Sg.AreInts.cons ?h; (case h => walk_at "arei")))
local macro_rules | `(tactic| walk_at "inr") => `(tactic| first | exact Sg.InR.nil | (refine' Sg.InR.cons ?h0 ?h1 ?h2; (case h0 => first | omega | decide); (case h1 => first | omega | decide); (case h2 => walk_at "inr")))
local macro_rules | `(tactic| walk_at "ca1") => `(tactic| with_reducible (refine' Sg.i_digits ?ev ?hS ?hv ?hl ?hss ?_; (case ev => (with_unfolding_all rfl)); (case hS => (with_unfolding_all walk_at "pr")); (case hv => (with_unfolding_all walk_at "arei")); (case hl => (with_unfolding_all (first | exact Nat.le_of_ble_eq_true rfl | simp))); (case hss => (with_unfolding_all walk_at "inr")); simp only [Sg.DQ, List.map_cons, List.map_nil]; intros))
/-- what is known of a layout's numbers -/
structure LayC (L : Lay) : Prop where
  s0 : 4 ≤ L.seg
  s1 : L.seg ≤ 16
  b0 : 16 ≤ L.blk
  b1 : L.blk ≤ 32
  z0 : 64 ≤ L.size
  z1 : L.size ≤ 256
  pay : L.pay = L.blk - 1
  lim : L.lim = (L.seg - 2) * L.pay
  lst : L.last = L.lim + L.pay
  l0 : 45 ≤ L.last
  l1 : L.last ≤ 465
  fz : 2 * L.fan = L.size
  f0 : 32 ≤ L.fan
  f1 : L.fan ≤ 128
  r0 : 2 ≤ L.reg
  r1 : L.reg ≤ 60
  dv : L.dev = 2 * L.reg + L.seg * L.blk
  d0 : 64 ≤ L.dev
  d1 : L.dev ≤ 1000
  rf0 : 4 * L.last + 6 + L.seg ≤ L.reg * L.fan
  rf1 : L.reg * L.fan ≤ 3000
theorem Fits.all {s b z : Int} (h : Fits s b z) : LayC (layOf s b z) := by
  obtain ⟨s0, s1, b0, b1, hz, _⟩ := h
  have e : (s - 2) * (b - 1) + (b - 1) = (s - 1) * (b - 1) := by
    have e : s - 1 = (s - 2) + 1 := by omega
    rw [e, Int.add_mul, Int.one_mul]
  have h1 : 3 * (b - 1) ≤ (s - 1) * (b - 1) := Int.mul_le_mul_of_nonneg_right (by omega) (by omega)
  have h2 : (s - 1) * (b - 1) ≤ 15 * (b - 1) := Int.mul_le_mul_of_nonneg_right (by omega) (by omega)
  have h3 : 4 * b ≤ s * b := Int.mul_le_mul_of_nonneg_right (by omega) (by omega)
  have h4 : s * b ≤ 16 * b := Int.mul_le_mul_of_nonneg_right (by omega) (by omega)
  have hl : (layOf s b z).last = (s - 1) * (b - 1) := e
  have hr : (layOf s b z).reg = (2 * (4 * ((s - 2) * (b - 1) + (b - 1)) + 6 + s) + z - 1) / z := rfl
  have hf : (layOf s b z).fan = z / 2 := rfl
  have hd : (layOf s b z).dev = 2 * (layOf s b z).reg + s * b := rfl
  have hs : (layOf s b z).seg = s := rfl
  rw [e] at hr
  generalize hL : layOf s b z = L at hl hr hf hd hs
  have pp : L.pay = L.blk - 1 ∧ L.lim = (L.seg - 2) * L.pay ∧ L.last = L.lim + L.pay ∧ L.blk = b ∧ L.size = z ∧ L.dev = 2 * L.reg + L.seg * L.blk := by
    subst hL
    exact ⟨rfl, rfl, rfl, rfl, rfl, rfl⟩
  obtain ⟨p1, p2, p3, p4, p5, p6⟩ := pp
  generalize (s - 1) * (b - 1) = n at h1 h2 hl hr
  generalize hsb : s * b = k at h3 h4 hd
  have key : 2 * L.fan = z ∧ 32 ≤ L.fan ∧ L.fan ≤ 128 ∧ 2 ≤ L.reg ∧ L.reg ≤ 60 ∧ 4 * L.last + 6 + L.seg ≤ L.reg * L.fan ∧ L.reg * L.fan ≤ 3000 := by
    rcases hz with rfl | rfl | rfl
    · rw [hf, show (64 : Int) / 2 = 32 from by decide]; omega
    · rw [hf, show (128 : Int) / 2 = 64 from by decide]; omega
    · rw [hf, show (256 : Int) / 2 = 128 from by decide]; omega
  obtain ⟨k1, k2, k3, k4, k5, k6, k7⟩ := key
  refine ⟨by omega, by omega, by omega, by omega, by omega, by omega, p1, p2, p3, by omega, by omega, by omega, k2, k3, k4, k5, p6, by omega, by omega, k6, k7⟩
theorem i_lawlay {C : Addr} {args_ : List V} {H : Hp} {Q : V → Hp → Prop} {E : XK} {r : Int} (ev : args_ = [.int r]) (q : ∀ (L : Lay) (H' : Hp) (p : Addr), LayC L → Same H H' → H p = none → LayAt C L H' p → Q (.ref p) H') : sp_lawlay C args_ H Q E :=
  ⟨r, ev, fun _ _ _ H' p hF s n hL => q _ H' p hF.all s n hL⟩
local macro_rules | `(tactic| walk_at "ca1") => `(tactic| with_reducible (refine' Sg.i_lawlay ?ev ?_; (case ev => (with_unfolding_all rfl)); intros))
local macro_rules | `(tactic| walk_at "pr") => `(tactic| with_reducible (refine' Sg.LayAt.mono ?h1 ?h2; (case h1 => assumption); (case h2 => walk_at "pr")))

/-! ### a drawn table -/
def sp_law_table (C : Addr) : Sp := fun args_ H Q _ => ∃ (p : Addr) (L : Lay) (r m : Int), args_ = [.ref p, .int r, .int m] ∧ LayAt C L H p ∧ 1 ≤ L.last ∧ L.last ≤ 1000 ∧ 0 < m ∧ m < 1073741824 ∧ ∀ (H' : Hp) (t : Addr) (ts : List Int), Same H H' → H t = none → H' t = some (.lst (ts.map V.int)) → (ts.length : Int) = L.last + 1 → (∀ z ∈ ts, 0 ≤ z ∧ z < m) → ts[0]? = some 0 → Q (.ref t) H'
theorem i_law_table {C : Addr} {args_ : List V} {H : Hp} {Q : V → Hp → Prop} {E : XK} {p : Addr} {L : Lay} {r m : Int} (ev : args_ = [.ref p, .int r, .int m]) (hL : LayAt C L H p) (l0 : 1 ≤ L.last) (l1 : L.last ≤ 1000) (m0 : 0 < m) (m1 : m < 1073741824) (q : ∀ (H' : Hp) (t : Addr) (ts : List Int), Same H H' → H t = none → H' t = some (.lst (ts.map V.int)) → (ts.length : Int) = L.last + 1 → (∀ z ∈ ts, 0 ≤ z ∧ z < m) → ts[0]? = some 0 → Q (.ref t) H') : sp_law_table C args_ H Q E := ⟨p, L, r, m, ev, hL, l0, l1, m0, m1, q⟩
local macro_rules | `(tactic| walk_at "ca1") => `(tactic| with_reducible (refine' Sg.i_law_table ?ev ?hL ?l0 ?l1 ?m0 ?m1 ?_; (case ev => (with_unfolding_all rfl)); (case hL => (with_unfolding_all walk_at "pr")); (case l0 => (with_unfolding_all walk_at "pr")); (case l1 => (with_unfolding_all walk_at "pr")); (case m0 => (with_unfolding_all walk_at "pr")); (case m1 => (with_unfolding_all walk_at "pr")); intros))

theorem ok_law_table (T : Txt K mg) : FnOk P w K mg base CX0 2 T.a_law_table T.fd_law_table ["layout", "row", "most"] (sp_law_table T.A_Layout) := by
  refine T.F_law_table.ok sc_law_table (fun vs H Q E h => ?_) (fun cdv A outer s H vs Q E hr h => ?_)
  · obtain ⟨p, L, r, m, rfl, _⟩ := h
    rfl
  · refine ⟨_, (pss_cons (ps_set (i := 3) sc_law_table.nd rfl (Or.inl rfl) (pe_op op_rep (pe_lst (pa_cons pe_int pa_nil)) (pe_op op_add (pe_fld (pv 0) rfl) pe_int)))
       (pss_cons (ps_asg (pe_call (ok_law_digits T) (hr.mono (by decide)) rfl T.m_law_digits T.F_law_digits.kp T.b_law_digits .nil pass0 (pa_cons (pv 1) (pa_cons (pe_lst (pa_cons (pv 2) (pa_cons (pv 2) (pa_cons (pe_op op_add (pe_fld (pv 0) rfl) pe_int) pa_nil)))) pa_nil))) (pg_unl (by rfl) (pgs_cons (pg_name (i := 4) sc_law_table.nd rfl (Or.inl rfl)) (pgs_cons (pg_name (i := 5) sc_law_table.nd rfl (Or.inl rfl)) (pgs_cons (pg_name (i := 6) sc_law_table.nd rfl (Or.inl rfl)) pgs_nil)))))
       (pss_cons (ps_for PassesOwn.never rfl (pi_range2 rfl T.n_range (pa_cons pe_int (pa_cons (pe_op op_add (pe_fld (pv 0) rfl) pe_int) pa_nil))) (pg_name (i := 7) sc_law_table.nd rfl (Or.inl rfl))
       (pss_one (ps_if (pt_cmpR op_lt (pe_op op_mod (pe_callTy c_int (by rfl) T.n_int (by decide +kernel) (pa_cons (pe_op op_add (pe_op op_mul (pv 7) pe_int) (pv 5)) pa_nil)) (pe_op op_add (pe_fld (pv 0) rfl) pe_int)) (pv 6) (nomark _))
       (pss_one (ps_asg (pe_op op_mod (pe_callTy c_int (by rfl) T.n_int (by decide +kernel) (pa_cons (pe_op op_add (pv 5) (pe_op op_mul (pv 7) (pe_op op_add (pv 4) pe_int))) pa_nil)) (pv 2)) (pg_sub (pv 3) (pv 7) set_list)))
       pss_nil)))
       (pss_one (ps_ret (pv 3)))))), ?_⟩
    try dsimp only [cxOf, Cx.nox, Cx.wish]
    obtain ⟨p, L, r, m, rfl, hL, l0, l1, m0, m1, q⟩ := h
    have cl_Layout := T.cl_Layout
    have na_Layout_last_id := T.na_Layout_last_id
    obtain ⟨dx, fs, hp, hL⟩ := hL
    have lk := hL.last
    walk_at "go"
    rename_i pz nz H1 s1 g1 pt nt H2 s2 g2 ps ns H3 s3 g3 step a0 a1 start b0 b1 many c0 c1 H4 pd s4 n4 g4
    have nt0 : H pt = none := s1.free nt
    have s24 : Same H2 H4 := s3.trans s4
    have gt : H4 pt = some (.lst ((List.replicate (L.last + 1).toNat (0 : Int)).map V.int)) := by
      rw [List.map_replicate]
      exact s24 _ _ g2
    have s04 : Same H H4 := s1.trans (s2.trans s24)
    clear g1 g2 g3 g4 n4 ns nz nt s1 s2 s3 s4 s24
    refine r_forR (fun i σ' H' => ∃ (v : Option V) (ts : List Int), σ' = [some (.ref p), some (.int r), some (.int m), some (.ref pt), some (.int step), some (.int start), some (.int many), v] ∧ Same H H' ∧ H' pt = some (.lst (ts.map V.int)) ∧ (ts.length : Int) = L.last + 1 ∧ (∀ z ∈ ts, 0 ≤ z ∧ z < m) ∧ ts[0]? = some 0) ?_ ?_ ?_
    · refine ⟨_, _, rfl, s04, gt, ?_, ?_, ?_⟩
      · rw [List.length_replicate]
        omega
      · intro z hz
        rw [List.eq_of_mem_replicate hz]
        omega
      · rw [List.getElem?_replicate, if_pos (by omega)]
    · clear gt s04
      rintro i σ' H' hi ⟨v, ts, rfl, s2, h2, e2, k2, z2⟩
      walk_at "go"
      refine r_ite (fun _ => ?_) (fun _ => ?_)
      · walk_at "go"
        rename_i z hz z0 z1
        refine r_setl h2 (ixN_ok (by omega) (by rw [List.length_map]; omega)) ?_
        rw [set_ints]
        generalize hH : upd _ _ _ = H2
        refine ⟨_, ts.set _ z, rfl, Sg.Same.old s2 nt0 hH, Sg.at_new hH, ?_, ?_, ?_⟩
        · rw [List.length_set]
          exact e2
        · intro y hy
          rcases List.mem_or_eq_of_mem_set hy with hy | rfl
          · exact k2 y hy
          · exact ⟨z0, z1⟩
        · rw [List.getElem?_set, if_neg (by omega)]
          exact z2
      · exact ⟨_, ts, rfl, s2, h2, e2, k2, z2⟩
    · rintro σ' H' ⟨v, ts, rfl, s2, h2, e2, k2, z2⟩
      walk_at "go"
      exact q _ _ ts s2 nt0 h2 e2 k2 z2

theorem Fits.last {s b z : Int} (h : Fits s b z) : 45 ≤ (layOf s b z).last ∧ (layOf s b z).last ≤ 465 := by
  obtain ⟨s0, s1, b0, b1, _, _⟩ := h
  show 45 ≤ (s - 2) * (b - 1) + (b - 1) ∧ (s - 2) * (b - 1) + (b - 1) ≤ 465
  have e : (s - 2) * (b - 1) + (b - 1) = (s - 1) * (b - 1) := by
    have e : s - 1 = (s - 2) + 1 := by omega
    rw [e, Int.add_mul, Int.one_mul]
  rw [e]
  have h1 : 3 * (b - 1) ≤ (s - 1) * (b - 1) := Int.mul_le_mul_of_nonneg_right (by omega) (by omega)
  have h2 : (s - 1) * (b - 1) ≤ 15 * (b - 1) := Int.mul_le_mul_of_nonneg_right (by omega) (by omega)
  omega
theorem r_neI {K : PySem.W.Frag} {H : Hp} {a b : Addr} {ns : List Int} {Q : V → Hp → Prop} (ha : SqL K H a (ns.map V.int)) (hb : SqL K H b (ns.map V.int)) (q : Q (.bl false) H) : rNeD K (.ref a) (.ref b) H Q := by
  refine r_ned (Dp.ints ha) (Dp.ints hb) (Fl.intlS ns) (Fl.intlS ns) ?_
  rw [(Fl.intl ns).self]
  exact q
theorem r_eqI {K : PySem.W.Frag} {H : Hp} {a b : Addr} {ns : List Int} {Q : V → Hp → Prop} (ha : SqL K H a (ns.map V.int)) (hb : SqL K H b (ns.map V.int)) (q : Q (.bl true) H) : rEqD K (.ref a) (.ref b) H Q := by
  refine r_eqd (Dp.ints ha) (Dp.ints hb) (Fl.intlS ns) (Fl.intlS ns) ?_
  rw [(Fl.intl ns).self]
  exact q


/-! ### any(xs) of a list of ints -/
theorem truth_intsV {prog : Program} {w : World} {A : Around} {ns : List Int} {its : List Value} (r : Vals (ns.map V.int) its) :
    TruthOf prog w A (fun i v => its.toArray[i]? = some v) (fun i => ns.getD i 0 != 0) := fun i v s Q E hv hq => by
  have hv' : its[i]? = some v := by simpa using hv
  have hi := (List.getElem?_eq_some_iff.mp hv').1
  have hl : (ns.map V.int).length = its.length := r.length
  rw [List.length_map] at hl
  have hx : (ns.map V.int)[i]? = some (V.int (ns.getD i 0)) := by
    rw [List.getElem?_map, List.getElem?_eq_getElem (by omega), List.getD_eq_getElem?_getD, List.getElem?_eq_getElem (by omega)]
    rfl
  obtain ⟨u, hu, ru⟩ := r.get hx
  rw [hv'] at hu
  cases hu
  obtain ⟨t, rfl⟩ := ru
  exact PySem.P.truthy_int hq
theorem any_rangeI : ∀ ns : List Int, (List.range ns.length).any (fun i => ns.getD i 0 != 0) = ns.any (· != 0)
  | [] => rfl
  | b :: bs => by
    rw [List.length_cons, List.range_succ_eq_map, List.any_cons, List.any_map, List.any_cons, ← any_rangeI bs]
    all_goals rfl
def rAnyI (K : PySem.W.Frag) : List V → Hp → VK → Prop := fun vs H Q => ∃ (a : Addr) (ns : List Int), vs = [V.ref a] ∧ SqL K H a (ns.map V.int) ∧ Q (.bl (ns.any (· != 0))) H
theorem cr_anyI {X : Cx} (hc : X.calm = true) : CallR X (.builtin "any") (rAnyI X.K) := by
  intro pins s σ H vs us Q I r h
  obtain ⟨a, ns, rfl, hs, q⟩ := h
  obtain ⟨its, rv, hl, _⟩ := I.list hs
  rw [Vals.ref1 r]
  refine PySem.call_any_walk (iter_any hl.isList fun s₂ e2 st hne => ?_)
  subst e2
  refine ⟨_, _, _, _, _, _, _, rfl, Walks.list (A := X.A.in1) (I.ok.hd hc) _ a hne its.toArray, st, truth_intsV rv, fun h' tk hk => ?_⟩
  refine ⟨.bl _, H, I.kept fun b o eo => hk b o (fun hmem => ?_) (Heap.get?_push_of_some _ eo), ?_, q⟩
  · rcases List.mem_cons.mp hmem with e1 | hmem
    · exact absurd (e1 ▸ Heap.lt_size eo) (Nat.lt_irrefl _)
    · cases hmem
  · show Value.bool _ = Value.bool _
    rw [← any_rangeI, List.size_toArray, ← rv.length, List.length_map]
theorem r_anyI {K : PySem.W.Frag} {H : Hp} {a : Addr} {ns : List Int} {Q : V → Hp → Prop} (h : SqL K H a (ns.map V.int)) (q : Q (.bl (ns.any (· != 0))) H) : rAnyI K [.ref a] H Q := ⟨a, ns, rfl, h, q⟩

/-! ### slices of lists of ints -/
theorem sIx_nn {n d : Nat} {v : Int} (h : 0 ≤ v) : HT.sIx n d (some v) = min v.toNat n := by
  show (if v < 0 then (v + (n : Int)).toNat else min v.toNat n) = _
  rw [if_neg (by omega)]
theorem cut_from {xs : List V} {lo : Int} (h : 0 ≤ lo) : cutV xs (some lo) none = xs.drop lo.toNat := by
  unfold cutV
  rw [sIx_nn h, HT.sIx_none]
  by_cases c : lo.toNat ≤ xs.length
  · rw [Nat.min_eq_left c]
    exact List.take_of_length_le (by rw [List.length_drop]; omega)
  · rw [Nat.min_eq_right (by omega), List.drop_length, List.drop_of_length_le (by omega), List.take_nil]
theorem cut_to {xs : List V} {hi : Int} (h : 0 ≤ hi) : cutV xs none (some hi) = xs.take hi.toNat := by
  unfold cutV
  rw [sIx_nn h, HT.sIx_none, List.drop_zero, Nat.sub_zero]
  by_cases c : hi.toNat ≤ xs.length
  · rw [Nat.min_eq_left c]
  · rw [Nat.min_eq_right (by omega), List.take_length, List.take_of_length_le (by omega)]
theorem cut_both {xs : List V} {lo hi : Int} (h : 0 ≤ lo) (h' : 0 ≤ hi) : cutV xs (some lo) (some hi) = (xs.drop lo.toNat).take (hi.toNat - lo.toNat) := by
  unfold cutV
  rw [sIx_nn h, sIx_nn h']
  by_cases c : lo.toNat ≤ xs.length
  · rw [Nat.min_eq_left c]
    by_cases c2 : hi.toNat ≤ xs.length
    · rw [Nat.min_eq_left c2]
    · rw [Nat.min_eq_right (by omega), List.take_of_length_le (by rw [List.length_drop]; omega), List.take_of_length_le (by rw [List.length_drop]; omega)]
  · rw [Nat.min_eq_right (by omega : xs.length ≤ lo.toNat), List.drop_length, List.drop_of_length_le (by omega), List.take_nil, List.take_nil]

/-! ### the numbers of a checkpoint -/
def flag (l : Nat) (ns : List Int) (j : Nat) : Int := ns.getD (l + j * (l + 1)) 0
def addrs (l : Nat) (ns : List Int) (j : Nat) : List Int := (ns.drop (l + j * (l + 1) + 1)).take l
def Bad (l : Nat) (ns : List Int) (j : Nat) : Prop := flag l ns j > 1 ∨ (flag l ns j = 0 ∧ (addrs l ns j).any (· != 0) = true)
def Tail (l : Nat) (s : Int) (ns : List Int) : Prop := ns.getD (4 * l + 5) 0 > s ∨ (ns.drop (4 * l + 6 + (ns.getD (4 * l + 5) 0).toNat)).any (· != 0) = true
def RdOk (l : Nat) (s : Int) (ns : List Int) : Prop := (∀ j, j < 3 → ¬ Bad l ns j) ∧ ¬ Tail l s ns
/-- a slot's value, by its flag and addresses -/
def SlotV (H : Hp) (v : V) (f : Int) (as : List Int) : Prop := (f = 1 ∧ ∃ a, v = .ref a ∧ H a = some (.lst ((0 :: as).map V.int))) ∨ (f ≠ 1 ∧ v = .non)
theorem SlotV.mono {H H' : Hp} {v : V} {f : Int} {as : List Int} (s : Same H H') (h : SlotV H v f as) : SlotV H' v f as := by
  rcases h with ⟨e, a, rfl, h⟩ | h
  · exact .inl ⟨e, a, rfl, s _ _ h⟩
  · exact .inr h
def sp_rdn (K : PySem.W.Frag) (C : Addr) : Sp := fun vs H Q _ => ∃ (p a : Addr) (L : Lay) (l : Nat) (ns : List Int), vs = [.ref p, .ref a] ∧ LayAt C L H p ∧ L.last = (l : Nat) ∧ 1 ≤ l ∧ l ≤ 465 ∧ 4 ≤ L.seg ∧ L.seg ≤ 16 ∧ SqL K H a (ns.map V.int) ∧ 4 * l + 6 ≤ ns.length ∧ ns.length ≤ 100000 ∧ (∀ x ∈ ns, 0 ≤ x) ∧
  (¬ RdOk l L.seg ns → ∀ H', Same H H' → Q .non H') ∧
  (RdOk l L.seg ns → ∀ (H' : Hp) (t a0 a1 a4 : Addr) (v0 v1 v2 : V), Same H H' → H' t = some (.tup [.ref a0, .ref a1, .int (ns.getD (4 * l + 3) 0), .int (ns.getD (4 * l + 4) 0), .ref a4]) → H' a0 = some (.lst ((0 :: ns.take l).map V.int)) →
    H' a1 = some (.lst [v0, v1, v2]) → SlotV H' v0 (flag l ns 0) (addrs l ns 0) → SlotV H' v1 (flag l ns 1) (addrs l ns 1) → SlotV H' v2 (flag l ns 2) (addrs l ns 2) → H' a4 = some (.lst (((ns.drop (4 * l + 6)).take (ns.getD (4 * l + 5) 0).toNat).map V.int)) → Q (.ref t) H')
theorem getD_pos {ns : List Int} (h : ∀ x ∈ ns, 0 ≤ x) (i : Nat) : 0 ≤ ns.getD i 0 := by
  rw [List.getD_eq_getElem?_getD]
  cases e : ns[i]? with
  | none => exact Int.le_refl _
  | some x => exact h x (List.mem_of_getElem? e)
theorem drop_map {ns : List Int} (n : Nat) : (ns.map V.int).drop n = (ns.drop n).map V.int := (List.map_drop ..).symm
theorem take_map {ns : List Int} (n : Nat) : (ns.map V.int).take n = (ns.take n).map V.int := (List.map_take ..).symm
theorem mul_lt3 {j l : Nat} (h : j < 3) : j * (l + 1) ≤ 2 * (l + 1) := Nat.mul_le_mul_right _ (by omega)
theorem drop3 {ns : List Int} {n : Nat} (h : n + 3 ≤ ns.length) : (ns.drop n).take 3 = [ns.getD n 0, ns.getD (n + 1) 0, ns.getD (n + 2) 0] := by
  refine List.ext_getElem? fun k => ?_
  rw [List.getElem?_take]
  by_cases c : k < 3
  · rw [if_pos c, List.getElem?_drop, List.getElem?_eq_getElem (by omega)]
    rcases (by omega : k = 0 ∨ k = 1 ∨ k = 2) with rfl | rfl | rfl
    · show _ = some (ns.getD n 0)
      rw [List.getD_eq_getElem?_getD, List.getElem?_eq_getElem (by omega)]
      rfl
    · show _ = some (ns.getD (n + 1) 0)
      rw [List.getD_eq_getElem?_getD, List.getElem?_eq_getElem (by omega)]
      rfl
    · show _ = some (ns.getD (n + 2) 0)
      rw [List.getD_eq_getElem?_getD, List.getElem?_eq_getElem (by omega)]
      rfl
  · rw [if_neg c]
    symm
    exact List.getElem?_eq_none (by simp; omega)
theorem ok_read_numbers (T : Txt K mg) : FnOk P w K mg base CX0 1 T.a_read_numbers T.fd_read_numbers ["layout", "numbers"] (sp_rdn K T.A_Layout) := by
  refine T.F_read_numbers.ok sc_read_numbers (fun vs H Q E h => ?_) (fun cdv A outer s H vs Q E hr h => ?_)
  · obtain ⟨p, a, L, l, ns, rfl, _⟩ := h
    rfl
  · refine ⟨_, (pss_cons (ps_set (i := 2) sc_read_numbers.nd rfl (Or.inl rfl) (pe_op op_add (pe_fld (pv 0) rfl) pe_int))
       (pss_cons (ps_set (i := 3) sc_read_numbers.nd rfl (Or.inl rfl) (pe_lst pa_nil))
       (pss_cons (ps_for PassesOwn.never rfl (pi_range1 rfl T.n_range (pa_cons (pe_glob rfl T.c_SLOTS T.r_SLOTS) pa_nil)) (pg_name (i := 4) sc_read_numbers.nd rfl (Or.inl rfl))
       (pss_cons (ps_set (i := 5) sc_read_numbers.nd rfl (Or.inl rfl) (pe_op op_add (pe_fld (pv 0) rfl) (pe_op op_mul (pv 4) (pv 2))))
       (pss_cons (ps_set (i := 6) sc_read_numbers.nd rfl (Or.inl rfl) (pe_ix ix_list (pv 1) (pv 5) (fun _ _ => rfl)))
       (pss_cons (ps_set (i := 7) sc_read_numbers.nd rfl (Or.inl rfl) (pe_slice sl_list (pv 1) (po_some (pe_op op_add (pv 5) pe_int)) (po_some (pe_op op_add (pv 5) (pv 2)))))
       (C8.pss_cut (ps_if (PW.pt (pw_or (pt_cmpR op_gt (pv 6) pe_int (nomark _)) (pw_or1 (PW.pt (pw_and (pt_cmpR op_eq (pv 6) pe_int (nomark _)) (pw_and1 (pt_val (pe_callB (cr_anyI rfl) (by rfl) T.n_any (by decide +kernel) (pa_cons (pv 7) pa_nil)))))))))
       (pss_one (ps_ret pe_non))
       pss_nil)
       (pss_one (ps_expr (pe_bm PySem.F.plainAttrs_list PySem.F.slot_list_append PySem.F.type_list_append mt_append (pv 3) (pa_cons (pe_ifExp (pt_cmpR op_eq (pv 6) pe_int (nomark _)) (pe_op op_cat (pe_lst (pa_cons pe_int pa_nil)) (pv 7)) pe_non) pa_nil)))))))))
       (pss_cons (ps_set (i := 5) sc_read_numbers.nd rfl (Or.inl rfl) (pe_op op_add (pe_fld (pv 0) rfl) (pe_op op_mul (pe_glob rfl T.c_SLOTS T.r_SLOTS) (pv 2))))
       (pss_cons (ps_asg (pe_slice sl_list (pv 1) (po_some (pv 5)) (po_some (pe_op op_add (pv 5) pe_int))) (pg_unl (by rfl) (pgs_cons (pg_name (i := 8) sc_read_numbers.nd rfl (Or.inl rfl)) (pgs_cons (pg_name (i := 9) sc_read_numbers.nd rfl (Or.inl rfl)) (pgs_cons (pg_name (i := 10) sc_read_numbers.nd rfl (Or.inl rfl)) pgs_nil)))))
       (pss_cons (ps_set (i := 11) sc_read_numbers.nd rfl (Or.inl rfl) (pe_op op_add (pe_op op_add (pv 5) pe_int) (pv 10)))
       (C8.pss_cut (ps_if (PW.pt (pw_or (pt_cmpR op_gt (pv 10) (pe_fld (pv 0) rfl) (nomark _)) (pw_or1 (pt_val (pe_callB (cr_anyI rfl) (by rfl) T.n_any (by decide +kernel) (pa_cons (pe_slice sl_list (pv 1) (po_some (pv 11)) po_none) pa_nil))))))
       (pss_one (ps_ret pe_non))
       pss_nil)
       (pss_one (ps_ret (pe_tup (pa_cons (pe_op op_cat (pe_lst (pa_cons pe_int pa_nil)) (pe_slice sl_list (pv 1) po_none (po_some (pe_fld (pv 0) rfl)))) (pa_cons (pv 3) (pa_cons (pv 8) (pa_cons (pv 9) (pa_cons (pe_slice sl_list (pv 1) (po_some (pe_op op_add (pv 5) pe_int)) (po_some (pv 11))) pa_nil))))))))))))))), ?_⟩
    try dsimp only [cxOf, Cx.nox, Cx.wish]
    obtain ⟨p, a, L, l, ns, rfl, ⟨dx, fs, hp, hL⟩, el, l0, l1, g0, g1, hS, n0, n1, np, q1, q2⟩ := h
    have cl := T.cl_Layout
    have na1 := T.na_Layout_last_id
    have na2 := T.na_Layout_segments
    have lk1 := hL.last
    have lk2 := hL.seg
    rw [el] at lk1
    walk_at "rd"
    rename_i ls nls H1 s1 h1
    refine r_forR (fun i σ' H' => ∃ (v4 v5 v6 v7 : Option V) (xs : List V), σ' = [some (.ref p), some (.ref a), some (.int ((l : Int) + 1)), some (.ref ls), v4, v5, v6, v7, none, none, none, none] ∧ Same H H' ∧ (True ∧ H' ls = some (.lst xs)) ∧ xs.length = i ∧ (∀ j, j < i → ¬ Bad l ns j) ∧ ∀ j v, xs[j]? = some v → SlotV H' v (flag l ns j) (addrs l ns j) ∧ v ≠ .ref ls) ?_ ?_ ?_
    · exact ⟨_, _, _, _, [], rfl, s1, ⟨trivial, h1⟩, rfl, fun j hj => absurd hj (Nat.not_lt_zero _), fun j v e => by simp at e⟩
    · rintro i σ' H' hi ⟨v4, v5, v6, v7, xs, rfl, s2, h2, hxl, hb, hv⟩
      have hi' : i < 3 := hi
      have hp2 := s2 _ _ hp
      have hS2 : True ∧ SqL K H' a (ns.map V.int) := ⟨trivial, s2.seq hS⟩
      clear h1
      have em : ((l : Int) + ((0 : Int) + (i : Int)) * ((l : Int) + 1)) = ((l + i * (l + 1) : Nat) : Int) := by
        rw [Int.zero_add]
        simp
      have hm := mul_lt3 (l := l) hi'
      walk_at "rd"
      rw [em]
      have ef : flag l ns i = ns.getD (l + i * (l + 1)) 0 := rfl
      have ea : addrs l ns i = (ns.drop (l + i * (l + 1) + 1)).take l := rfl
      generalize hst : l + i * (l + 1) = st at ef ea
      have hst2 : st ≤ 3 * l + 2 := by omega
      refine r_ixl hS2.2 (at_ints (by omega) (by omega)) ?_
      rw [Int.toNat_natCast, ← ef]
      walk_at "rd"
      rename_i la nla Ha sa ha
      rw [cut_both (by omega) (by omega), drop_map, take_map, show ((st : Int) + 1).toNat = st + 1 from by omega, show ((st : Int) + ((l : Int) + 1)).toNat - (st + 1) = l from by omega, ← ea] at ha
      have h2a : True ∧ Ha ls = some (.lst xs) := ⟨trivial, sa _ _ h2.2⟩
      walk_at "rd"
      have hbad : Bad l ns i ↔ (flag l ns i > 1 ∨ (flag l ns i = 0 ∧ (addrs l ns i).any (· != 0) = true)) := Iff.rfl
      have vl : ∀ j v, xs[j]? = some v → SlotV Ha v (flag l ns j) (addrs l ns j) ∧ v ≠ .ref ls := fun j v e => ⟨(hv j v e).1.mono sa, (hv j v e).2⟩
      have la' : (addrs l ns i).length ≤ 465 := by
        rw [ea, List.length_take]
        omega
      have step : ∀ (v : V) (H2 : Hp), Same Ha H2 → v ≠ .ref ls → SlotV H2 v (flag l ns i) (addrs l ns i) → ¬ Bad l ns i → (∀ j, j < i + 1 → ¬ Bad l ns j) ∧ ∀ j u, (xs ++ [v])[j]? = some u → SlotV (upd H2 ls (.lst (xs ++ [v]))) u (flag l ns j) (addrs l ns j) ∧ u ≠ .ref ls := by
        intro v H2 s3 hne hs nb
        have keep : ∀ (u : V) (f : Int) (as : List Int), u ≠ .ref ls → SlotV H2 u f as → SlotV (upd H2 ls (.lst (xs ++ [v]))) u f as := by
          intro u f as hu h
          rcases h with ⟨e, b, rfl, h⟩ | h
          · exact .inl ⟨e, b, rfl, by rw [upd_ne (fun z => hu (by rw [z]))]; exact h⟩
          · exact .inr h
        refine ⟨fun j hj => ?_, fun j u e => ?_⟩
        · by_cases ej : j = i
          · subst ej
            exact nb
          · exact hb j (by omega)
        · rw [List.getElem?_append] at e
          split at e
          · exact ⟨keep _ _ _ (vl j u e).2 ((vl j u e).1.mono s3), (vl j u e).2⟩
          · have ej : j = i := by
              have := (List.getElem?_eq_some_iff.mp e).1
              simp at this
              omega
            subst ej
            rw [hxl, Nat.sub_self] at e
            cases e
            exact ⟨keep _ _ _ hne hs, hne⟩
      generalize hfe : flag l ns i = f at ef hbad step
      generalize hae : addrs l ns i = as at ea hbad step ha la'
      by_cases bad : Bad l ns i
      · refine r_cut (fun _ _ => False) ?_ (fun _ _ h => h.elim)
        have out : Q .non Ha := q1 (fun h => h.1 i hi' bad) _ (s2.trans sa)
        rw [hbad] at bad
        walk_at "rd"
        refine r_ite (fun c => ?_) (fun c => ?_)
        · walk_at "rd"
          exact out
        · walk_at "rd"
          refine r_ite (fun c2 => ?_) (fun c2 => ?_)
          · walk_at "rd"
            refine r_anyI (.of ha) ?_
            walk_at "rd"
            cases hx : as.any (· != 0) with
            | true =>
              walk_at "rd"
              exact out
            | false =>
              rw [hx] at bad
              rcases bad with bad | ⟨_, bad⟩
              · exact absurd bad c
              · cases bad
          · rcases bad with bad | ⟨bad, _⟩
            · exact absurd bad c
            · exact absurd bad c2
      · refine r_cutS ?_ ?_
        · have bad' := bad
          rw [hbad] at bad'
          walk_at "rd"
          refine r_ite (fun c => absurd (.inl c) bad') (fun c => ?_)
          walk_at "rd"
          refine r_ite (fun c2 => ?_) (fun c2 => ?_)
          · walk_at "rd"
            refine r_anyI (.of ha) ?_
            walk_at "rd"
            cases hx : as.any (· != 0) with
            | true => exact absurd (.inr ⟨c2, hx⟩) bad'
            | false =>
              walk_at "rd"
              exact ⟨rfl, rfl⟩
          · walk_at "rd"
            exact ⟨rfl, rfl⟩
        walk_at "rd"
        refine r_tyl (.of h2a.2) ?_
        walk_at "rd"
        refine r_ite (fun c => ?_) (fun c => ?_)
        · walk_at "rd"
          rename_i lz nlz Hz sz' hz lr nlr Hr sr hr'
          have sar := sz'.trans sr
          have nel : V.ref lr ≠ .ref ls := fun z => by
            cases z
            exact ne_of_none (sz' _ _ h2a.2) nlr rfl
          refine r_app (sar _ _ h2a.2) (by rw [sz]; omega) ?_
          obtain ⟨st1, st2⟩ := step (.ref lr) Hr sar nel (.inl ⟨c, lr, rfl, hr'⟩) bad
          exact ⟨_, _, _, _, _, rfl, Same.old (s2.trans (sa.trans sar)) nls rfl, ⟨trivial, upd_same⟩, by rw [List.length_append, hxl]; rfl, st1, st2⟩
        · walk_at "rd"
          refine r_app h2a.2 (by rw [sz]; omega) ?_
          obtain ⟨st1, st2⟩ := step .non Ha (L2.Same.refl _) (by intro z; cases z) (.inr ⟨c, rfl⟩) bad
          exact ⟨_, _, _, _, _, rfl, Same.old (s2.trans sa) nls rfl, ⟨trivial, upd_same⟩, by rw [List.length_append, hxl]; rfl, st1, st2⟩
    · rintro σ' H' ⟨v4, v5, v6, v7, xs, rfl, s2, h2, hxl, hb, hv⟩
      have hp2 := s2 _ _ hp
      have hS2 : True ∧ SqL K H' a (ns.map V.int) := ⟨trivial, s2.seq hS⟩
      clear h1 s1
      have hb3 : ∀ j, j < 3 → ¬ Bad l ns j := hb
      have hxl3 : xs.length = 3 := hxl
      obtain ⟨w0, w1, w2, rfl⟩ : ∃ w0 w1 w2, xs = [w0, w1, w2] := by
        match xs, hxl3 with
        | [w0, w1, w2], _ => exact ⟨_, _, _, rfl⟩
      have e0 := (hv 0 w0 rfl).1
      have e1 := (hv 1 w1 rfl).1
      have e2 := (hv 2 w2 rfl).1
      have em : ((l : Int) + 3 * ((l : Int) + 1)) = ((4 * l + 3 : Nat) : Int) := by omega
      walk_at "rd"
      rw [em]
      rename_i lt nlt Ht st ht
      rw [em] at ht
      rw [cut_both (by omega) (by omega), drop_map, take_map, Int.toNat_natCast, show (((4 * l + 3 : Nat) : Int) + 3).toNat - (4 * l + 3) = 3 from by omega, drop3 (by omega)] at ht
      have c0 := getD_pos np (4 * l + 5)
      have ht' : Ht lt = some (.lst [.int (ns.getD (4 * l + 3) 0), .int (ns.getD (4 * l + 4) 0), .int (ns.getD (4 * l + 5) 0)]) := ht
      have eT : Tail l L.seg ns ↔ (ns.getD (4 * l + 5) 0 > L.seg ∨ (ns.drop (4 * l + 6 + (ns.getD (4 * l + 5) 0).toNat)).any (· != 0) = true) := Iff.rfl
      clear ht
      generalize ns.getD (4 * l + 3) 0 = hd at ht' q2
      generalize ns.getD (4 * l + 4) 0 = pl at ht' q2
      generalize ns.getD (4 * l + 5) 0 = ct at ht' q2 c0 eT
      refine r_gunl (.of ht') rfl ?_
      have hSt : True ∧ SqL K Ht a (ns.map V.int) := ⟨trivial, st.seq hS2.2⟩
      have hpt := st _ _ hp2
      have h2t := st _ _ h2.2
      have e0t := e0.mono st
      have e1t := e1.mono st
      have e2t := e2.mono st
      have s2t := s2.trans st
      clear hS2 ht' hp2 h2 e0 e1 e2 hv hb
      walk_at "rd"
      have eq : ((4 * l + 3 : Nat) : Int) + 3 + ct = ((4 * l + 6 + ct.toNat : Nat) : Int) := by omega
      rw [eq]
      by_cases tail : Tail l L.seg ns
      · refine r_cut (fun _ _ => False) ?_ (fun _ _ h => h.elim)
        have out : ∀ H3, Same Ht H3 → Q .non H3 := fun H3 s3 => q1 (fun h => h.2 tail) _ (s2t.trans s3)
        rw [eT] at tail
        walk_at "rd"
        refine r_ite (fun c => ?_) (fun c => ?_)
        · walk_at "rd"
          exact out _ (L2.Same.refl _)
        · walk_at "rd"
          rename_i lu nlu Hu su hu
          rw [cut_from (by omega), drop_map, Int.toNat_natCast] at hu
          refine r_anyI (.of hu) ?_
          walk_at "rd"
          cases hx : (ns.drop (4 * l + 6 + ct.toNat)).any (· != 0) with
          | true =>
            walk_at "rd"
            exact out _ su
          | false =>
            rw [hx] at tail
            rcases tail with tail | tail
            · exact absurd tail c
            · cases tail
      · refine r_cutH ?_ (fun Hu su => ?_)
        · have tail' := tail
          rw [eT] at tail'
          walk_at "rd"
          refine r_ite (fun c => absurd (.inl c) tail') (fun c => ?_)
          walk_at "rd"
          rename_i lu nlu Hu su hu
          rw [cut_from (by omega), drop_map, Int.toNat_natCast] at hu
          refine r_anyI (.of hu) ?_
          walk_at "rd"
          cases hx : (ns.drop (4 * l + 6 + ct.toNat)).any (· != 0) with
          | true => exact absurd (.inr hx) tail'
          | false =>
            walk_at "rd"
            exact ⟨rfl, su⟩
        have hSu : True ∧ SqL K Hu a (ns.map V.int) := ⟨trivial, su.seq hSt.2⟩
        have hpu := su _ _ hpt
        have h2u := su _ _ h2t
        have s2u := s2t.trans su
        have e0u := e0t.mono su
        have e1u := e1t.mono su
        have e2u := e2t.mono su
        clear hSt hpt h2t e0t e1t e2t
        walk_at "rd"
        rename_i lz nlz Hz sz' hz ly nly Hy sy hy
        rw [cut_to (by omega), take_map, Int.toNat_natCast] at hy
        have tl' : (ns.take l).length ≤ 465 := by
          rw [List.length_take]
          omega
        refine r_cat (sy _ _ hz) hy (by rw [List.length_map, sz]; simp; omega) (fun lr nlr => ?_)
        generalize hHr : upd _ _ _ = Hr
        have sr := Same.of_new hHr nlr
        have hr' := Sg.at_new hHr
        clear hHr
        have sur := sz'.trans (sy.trans sr)
        have hSr : True ∧ SqL K Hr a (ns.map V.int) := ⟨trivial, sur.seq hSu.2⟩
        clear hSu
        walk_at "rd"
        rename_i l5 nl5 H5 s5 h5 tt ntt H6 s6 h6
        have e3 : (((4 * l + 3 : Nat) : Int) + 3).toNat = 4 * l + 6 := by omega
        rw [cut_both (by omega) (by omega), drop_map, take_map, e3, Int.toNat_natCast, show 4 * l + 6 + ct.toNat - (4 * l + 6) = ct.toNat from by omega] at h5
        have s56 := s5.trans s6
        have sux := sur.trans s56
        exact q2 ⟨hb3, tail⟩ _ tt lr ls l5 w0 w1 w2 (s2u.trans sux) h6 (s56 _ _ hr') (sux _ _ h2u) (e0u.mono sux) (e1u.mono sux) (e2u.mono sux) (s6 _ _ h5)

theorem Fits.room {s b z : Int} (h : Fits s b z) : 4 ≤ (layOf s b z).seg ∧ (layOf s b z).seg ≤ 16 ∧ 0 ≤ (layOf s b z).reg * (layOf s b z).fan ∧ (layOf s b z).reg * (layOf s b z).fan ≤ 3000 ∧ 0 ≤ (layOf s b z).fan ∧ (layOf s b z).fan ≤ 128 := by
  obtain ⟨l0, l1⟩ := h.last
  obtain ⟨s0, s1, b0, b1, hz, _⟩ := h
  have l0' : 45 ≤ (s - 2) * (b - 1) + (b - 1) := l0
  have l1' : (s - 2) * (b - 1) + (b - 1) ≤ 465 := l1
  show 4 ≤ s ∧ s ≤ 16 ∧ 0 ≤ (2 * (4 * ((s - 2) * (b - 1) + (b - 1)) + 6 + s) + z - 1) / z * (z / 2) ∧ (2 * (4 * ((s - 2) * (b - 1) + (b - 1)) + 6 + s) + z - 1) / z * (z / 2) ≤ 3000 ∧ 0 ≤ z / 2 ∧ z / 2 ≤ 128
  generalize (s - 2) * (b - 1) + (b - 1) = n at l0' l1' ⊢
  refine ⟨s0, s1, ?_⟩
  rcases hz with rfl | rfl | rfl
  · rw [show (64 : Int) / 2 = 32 from by decide]
    omega
  · rw [show (128 : Int) / 2 = 64 from by decide]
    omega
  · rw [show (256 : Int) / 2 = 128 from by decide]
    omega
theorem hid_mono {D : Addr} {H H' : Hp} (s : L2.Same H H') : L2.Same (hid D H) (hid D H') := fun b o e => by
  obtain ⟨hb, e⟩ := of_hid e
  rw [hid_ne hb]
  exact s _ _ e
/-- a slot and the numbers that tell it -/
def Slt (l : Nat) (H : Hp) (v : V) (f : Int × List Int) : Prop := SlotV H v f.1 f.2 ∧ f.2.length = l ∧ (f.1 = 1 ∨ (f.1 = 0 ∧ f.2 = List.replicate l 0)) ∧ ∀ x ∈ f.2, 0 ≤ x
theorem Slt.mono {l : Nat} {H H' : Hp} {v : V} {f : Int × List Int} (s : L2.Same H H') (h : Slt l H v f) : Slt l H' v f := ⟨h.1.mono s, h.2⟩
theorem slts_mono {l : Nat} {H H' : Hp} (s : L2.Same H H') : ∀ {xs : List V} {fs : List (Int × List Int)}, Paired (Slt l H) xs fs → Paired (Slt l H') xs fs
  | _, _, .nil => .nil
  | _, _, .cons h t => .cons (h.mono s) (slts_mono s t)
theorem Slt.flag0 {l : Nat} {H : Hp} {v : V} {f : Int × List Int} (h : Slt l H v f) (e : v = .non) : f.1 = 0 := by
  rcases h.2.2.1 with h1 | h1
  · rcases h.1 with ⟨_, a, ea, _⟩ | ⟨h2, _⟩
    · rw [e] at ea
      cases ea
    · exact absurd h1 h2
  · exact h1.1
theorem Slt.nn {l : Nat} {H : Hp} {v : V} {f : Int × List Int} (h : Slt l H v f) : ∀ x ∈ f.1 :: f.2, 0 ≤ x := fun x hx => by
  rcases List.mem_cons.mp hx with rfl | hx
  · rcases h.2.2.1 with h1 | h1
    · omega
    · have := h1.1
      omega
  · exact h.2.2.2 x hx
theorem SlotV.dp {K : PySem.W.Frag} {H : Hp} {v w : V} {f : Int} {as : List Int} (h : SlotV H v f as) (h' : SlotV H w f as) : ∃ d, Dp K H v d ∧ Dp K H w d ∧ Fl 1 d := by
  rcases h with ⟨e, a, rfl, h⟩ | ⟨e, rfl⟩
  · rcases h' with ⟨_, b, rfl, h'⟩ | ⟨e', _⟩
    · exact ⟨_, Dp.ints (.of h), Dp.ints (.of h'), Fl.intl _⟩
    · exact absurd e e'
  · rcases h' with ⟨e', _⟩ | ⟨_, rfl⟩
    · exact absurd e' e
    · exact ⟨.none, .non, .non, Fl.non _⟩
def flatF (fs : List (Int × List Int)) : List Int := (fs.map fun f => f.1 :: f.2).flatten
theorem flatF_snoc (fs : List (Int × List Int)) (f : Int × List Int) : flatF (fs ++ [f]) = flatF fs ++ f.1 :: f.2 := by simp [flatF]
theorem seg_at {X A R : List Int} {f : Int} {n l : Nat} (hX : X.length = n) (hA : A.length = l) : (X ++ f :: (A ++ R)).getD n 0 = f ∧ ((X ++ f :: (A ++ R)).drop (n + 1)).take l = A := by
  subst hX
  subst hA
  refine ⟨?_, ?_⟩
  · rw [List.getD_eq_getElem?_getD, List.getElem?_append_right (Nat.le_refl _), Nat.sub_self]
    rfl
  · have e : X ++ f :: (A ++ R) = (X ++ [f]) ++ (A ++ R) := by simp
    have e2 : X.length + 1 = (X ++ [f]).length := by simp
    rw [e, e2, List.drop_left, List.take_left]
structure NsOk (l : Nat) (s : Int) (ns P : List Int) (f0 f1 f2 : Int × List Int) (hd pl ct : Int) (qs : List Int) : Prop where
  g0 : flag l ns 0 = f0.1
  g1 : flag l ns 1 = f1.1
  g2 : flag l ns 2 = f2.1
  a0 : addrs l ns 0 = f0.2
  a1 : addrs l ns 1 = f1.2
  a2 : addrs l ns 2 = f2.2
  tk : ns.take l = P
  h3 : ns.getD (4 * l + 3) 0 = hd
  h4 : ns.getD (4 * l + 4) 0 = pl
  h5 : ns.getD (4 * l + 5) 0 = ct
  qd : (ns.drop (4 * l + 6)).take ct.toNat = qs
  len : 4 * l + 6 + ct.toNat ≤ ns.length
  ok : RdOk l s ns
theorem zeros_any (m : Nat) : (List.replicate m (0 : Int)).any (· != 0) = false := by
  rw [List.any_eq_false]
  intro x hx
  rw [List.eq_of_mem_replicate hx]
  decide
theorem nsOk {l m : Nat} {s : Int} {P qs : List Int} {f0 f1 f2 : Int × List Int} {hd pl ct : Int} (e : P.length = l) (e0 : f0.2.length = l) (e1 : f1.2.length = l) (e2 : f2.2.length = l) (eq : qs.length = ct.toNat) (hc : ct ≤ s)
    (o0 : f0.1 = 1 ∨ (f0.1 = 0 ∧ f0.2 = List.replicate l 0)) (o1 : f1.1 = 1 ∨ (f1.1 = 0 ∧ f1.2 = List.replicate l 0)) (o2 : f2.1 = 1 ∨ (f2.1 = 0 ∧ f2.2 = List.replicate l 0)) :
    NsOk l s (P ++ flatF [f0, f1, f2] ++ [hd, pl, ct] ++ qs ++ List.replicate m 0) P f0 f1 f2 hd pl ct qs := by
  obtain ⟨f0, A0⟩ := f0
  obtain ⟨f1, A1⟩ := f1
  obtain ⟨f2, A2⟩ := f2
  dsimp only at e0 e1 e2 o0 o1 o2
  have x0 : P ++ flatF [(f0, A0), (f1, A1), (f2, A2)] ++ [hd, pl, ct] ++ qs ++ List.replicate m 0 = P ++ f0 :: (A0 ++ (f1 :: A1 ++ f2 :: A2 ++ [hd, pl, ct] ++ qs ++ List.replicate m 0)) := by simp [flatF]
  have x1 : P ++ flatF [(f0, A0), (f1, A1), (f2, A2)] ++ [hd, pl, ct] ++ qs ++ List.replicate m 0 = (P ++ f0 :: A0) ++ f1 :: (A1 ++ (f2 :: A2 ++ [hd, pl, ct] ++ qs ++ List.replicate m 0)) := by simp [flatF]
  have x2 : P ++ flatF [(f0, A0), (f1, A1), (f2, A2)] ++ [hd, pl, ct] ++ qs ++ List.replicate m 0 = (P ++ f0 :: A0 ++ f1 :: A1) ++ f2 :: (A2 ++ ([hd, pl, ct] ++ qs ++ List.replicate m 0)) := by simp [flatF]
  have x3 : P ++ flatF [(f0, A0), (f1, A1), (f2, A2)] ++ [hd, pl, ct] ++ qs ++ List.replicate m 0 = (P ++ f0 :: A0 ++ f1 :: A1 ++ f2 :: A2) ++ hd :: ([] ++ (pl :: ct :: qs ++ List.replicate m 0)) := by simp [flatF]
  have x4 : P ++ flatF [(f0, A0), (f1, A1), (f2, A2)] ++ [hd, pl, ct] ++ qs ++ List.replicate m 0 = (P ++ f0 :: A0 ++ f1 :: A1 ++ f2 :: A2 ++ [hd]) ++ pl :: ([] ++ (ct :: qs ++ List.replicate m 0)) := by simp [flatF]
  have x5 : P ++ flatF [(f0, A0), (f1, A1), (f2, A2)] ++ [hd, pl, ct] ++ qs ++ List.replicate m 0 = (P ++ f0 :: A0 ++ f1 :: A1 ++ f2 :: A2 ++ [hd, pl]) ++ ct :: (qs ++ List.replicate m 0) := by simp [flatF]
  have x6 : P ++ flatF [(f0, A0), (f1, A1), (f2, A2)] ++ [hd, pl, ct] ++ qs ++ List.replicate m 0 = (P ++ f0 :: A0 ++ f1 :: A1 ++ f2 :: A2 ++ [hd, pl, ct] ++ qs) ++ List.replicate m 0 := by simp [flatF]
  have xP : P ++ flatF [(f0, A0), (f1, A1), (f2, A2)] ++ [hd, pl, ct] ++ qs ++ List.replicate m 0 = P ++ (flatF [(f0, A0), (f1, A1), (f2, A2)] ++ [hd, pl, ct] ++ qs ++ List.replicate m 0) := by simp
  generalize P ++ flatF [(f0, A0), (f1, A1), (f2, A2)] ++ [hd, pl, ct] ++ qs ++ List.replicate m 0 = ns at *
  have y0 := seg_at (X := P) (A := A0) (R := f1 :: A1 ++ f2 :: A2 ++ [hd, pl, ct] ++ qs ++ List.replicate m 0) (f := f0) (n := l + 0 * (l + 1)) (l := l) (by omega) e0
  have y1 := seg_at (X := P ++ f0 :: A0) (A := A1) (R := f2 :: A2 ++ [hd, pl, ct] ++ qs ++ List.replicate m 0) (f := f1) (n := l + 1 * (l + 1)) (l := l) (by simp; omega) e1
  have y2 := seg_at (X := P ++ f0 :: A0 ++ f1 :: A1) (A := A2) (R := [hd, pl, ct] ++ qs ++ List.replicate m 0) (f := f2) (n := l + 2 * (l + 1)) (l := l) (by simp; omega) e2
  have y3 := seg_at (X := P ++ f0 :: A0 ++ f1 :: A1 ++ f2 :: A2) (A := []) (R := pl :: ct :: qs ++ List.replicate m 0) (f := hd) (n := 4 * l + 3) (l := 0) (by simp; omega) rfl
  have y4 := seg_at (X := P ++ f0 :: A0 ++ f1 :: A1 ++ f2 :: A2 ++ [hd]) (A := []) (R := ct :: qs ++ List.replicate m 0) (f := pl) (n := 4 * l + 4) (l := 0) (by simp; omega) rfl
  have y5 := seg_at (X := P ++ f0 :: A0 ++ f1 :: A1 ++ f2 :: A2 ++ [hd, pl]) (A := qs) (R := List.replicate m 0) (f := ct) (n := 4 * l + 5) (l := ct.toNat) (by simp; omega) eq
  rw [← x0] at y0
  rw [← x1] at y1
  rw [← x2] at y2
  rw [← x3] at y3
  rw [← x4] at y4
  rw [← x5] at y5
  have y6 : ns.drop (4 * l + 6 + ct.toNat) = List.replicate m 0 := by
    rw [x6]
    have e6 : 4 * l + 6 + ct.toNat = (P ++ f0 :: A0 ++ f1 :: A1 ++ f2 :: A2 ++ [hd, pl, ct] ++ qs).length := by simp; omega
    rw [e6, List.drop_left]
  have yl : 4 * l + 6 + ct.toNat ≤ ns.length := by
    rw [x6]
    simp
    omega
  have z0 : ∀ {f : Int} {A : List Int}, (f = 1 ∨ (f = 0 ∧ A = List.replicate l 0)) → ¬ (f > 1 ∨ (f = 0 ∧ A.any (· != 0) = true)) := by
    rintro f A (rfl | ⟨rfl, rfl⟩) (h | ⟨h, h2⟩)
    · exact absurd h (by decide)
    · exact absurd h (by decide)
    · exact absurd h (by decide)
    · rw [zeros_any] at h2
      cases h2
  have yP : ns.take l = P := by
    rw [xP, ← e, List.take_left]
  refine ⟨y0.1, y1.1, y2.1, y0.2, y1.2, y2.2, yP, y3.1, y4.1, y5.1, y5.2, yl, fun j hj => ?_, ?_⟩
  · rcases (by omega : j = 0 ∨ j = 1 ∨ j = 2) with rfl | rfl | rfl
    · unfold Bad flag addrs
      rw [y0.1, y0.2]
      exact z0 o0
    · unfold Bad flag addrs
      rw [y1.1, y1.2]
      exact z0 o1
    · unfold Bad flag addrs
      rw [y2.1, y2.2]
      exact z0 o2
  · unfold Tail
    rw [y5.1, y6, zeros_any]
    rintro (h | h)
    · omega
    · cases h
theorem set_last {xs : List V} {u v : V} : (xs ++ [u]).set xs.length v = xs ++ [v] := by simp

theorem getD_set_eq {ns : List Int} {i : Nat} {v : Int} (h : i < ns.length) : (ns.set i v).getD i 0 = v := by
  rw [List.getD_eq_getElem?_getD, List.getElem?_set_self h]
  rfl
theorem getD_set_ne {ns : List Int} {i j : Nat} {v : Int} (h : i ≠ j) : (ns.set i v).getD j 0 = ns.getD j 0 := by
  rw [List.getD_eq_getElem?_getD, List.getElem?_set_ne h, ← List.getD_eq_getElem?_getD]
theorem any_of {xs : List Int} {k : Nat} {v : Int} (h : xs[k]? = some v) (hv : v ≠ 0) : xs.any (· != 0) = true :=
  List.any_eq_true.mpr ⟨v, List.mem_of_getElem? h, by simpa using hv⟩
theorem set_nn {ns : List Int} {i : Nat} {v : Int} (h : ∀ x ∈ ns, 0 ≤ x) (hv : 0 ≤ v) : ∀ x ∈ ns.set i v, 0 ≤ x := fun x hx => by
  rcases List.mem_or_eq_of_mem_set hx with hx | rfl
  · exact h x hx
  · exact hv

theorem paired_at {α β : Type} {F : α → β → Prop} : ∀ {xs : List α} {ys : List β} {i : Nat} {x : α}, Paired F xs ys → xs[i]? = some x → ∃ y, ys[i]? = some y ∧ F x y
  | _, _, _, _, .nil, e => by simp at e
  | _, _, 0, _, .cons r t, e => by simp at e; subst e; exact ⟨_, rfl, r⟩
  | _, _, i + 1, _, .cons r t, e => by
    obtain ⟨y, e1, h1⟩ := paired_at (i := i) t (by simpa using e)
    exact ⟨y, by simpa using e1, h1⟩
/-! ### what stays: tuples, and what is frozen -/
def Fixed : HO → Prop
  | .tup _ => True
  | .frz _ _ => True
  | _ => False
def Keeps (H H' : Hp) : Prop := ∀ b o, Fixed o → H b = some o → H' b = some o
theorem Keeps.refl (H : Hp) : Keeps H H := fun _ _ _ h => h
theorem Keeps.trans {H H1 H2 : Hp} (a : Keeps H H1) (b : Keeps H1 H2) : Keeps H H2 := fun c o f h => b c o f (a c o f h)
theorem Keeps.of {H H' : Hp} (s : Same H H') : Keeps H H' := fun b o _ h => s b o h
theorem Keeps.upd {H H' : Hp} {l : Addr} {o ol : HO} (h : H l = some ol) (n : ¬ Fixed ol) (e : L2.upd H l o = H') : Keeps H H' := fun b u f q => by
  rw [← e, upd_ne]
  · exact q
  · rintro rfl
    rw [h] at q
    cases q
    exact n f
theorem Keeps.tup {K : PySem.W.Frag} {H H' : Hp} {a : Addr} {xs : List V} (s : Keeps H H') (h : SqT K H a xs) : SqT K H' a xs := by
  rcases h with (h | ⟨o, h⟩) | h
  · exact .inl (.inl (s _ _ trivial h))
  · exact .inl (.inr ⟨o, s _ _ trivial h⟩)
  · exact .inr h
/-- the script, and what stands written -/
theorem Keeps.script {K : PySem.W.Frag} {H H' : Hp} {a : Addr} {o : Obj} {xs : List V} (s : Keeps H H') (h : H a = some (.frz o (.lst xs))) : SqL K H' a xs := .inl (.inr ⟨o, s _ _ trivial h⟩)
theorem SqL.keep {K : PySem.W.Frag} {H H' : Hp} {a d C dx : Addr} {fs : List (Str × V)} {o : HO} {xs : List V} (h : SqL K H a xs) (hd : H d = some (.ins C dx fs)) (e : L2.upd H d o = H') : SqL K H' a xs := by
  rcases h with (h | ⟨o', h⟩) | h
  · exact .inl (.inl (at_keep e h hd (by intro z; cases z)))
  · exact .inl (.inr ⟨o', at_keep e h hd (by intro z; cases z)⟩)
  · exact .inr h
/-- the script: a list that is read for as long as what is fixed stays -/
def Scr (K : PySem.W.Frag) (H : Hp) (a : Addr) (ns : List Int) : Prop := ∀ H', Keeps H H' → SqL K H' a (ns.map V.int)
theorem scr_of {K : PySem.W.Frag} {H : Hp} {a : Addr} {ns : List Int} (hO : Only H) (h : SqL K H a (ns.map V.int)) : Scr K H a ns := fun H' k => by
  rcases h with (h | ⟨o', h⟩) | h
  · rcases hO a with z | ⟨o, xs, z⟩ <;> rw [h] at z <;> cases z
  · exact .inl (.inr ⟨o', k _ _ trivial h⟩)
  · exact .inr h
/-- [e for x in range], its items anything -/
theorem r_lcR {lo : Int} {n slot : Nat} {vs : List Nat} {te : TE} {σ : L2.St} {H : Hp} {Q : V → Hp → Prop} (P : Nat → List V → Hp → Prop) (hn : n ≤ 100000) (hv : vs = [slot])
    (h0 : P 0 [] H)
    (hs : ∀ (i : Nat) (acc : List V) (H0 H' : Hp), i < n → L2.Same H H0 → P i acc H0 → L2.Same H0 H' → ∀ R : V → Hp → Prop,
      (∀ (v : V) (H'' : Hp), L2.Same H' H'' → (∀ D, H0 D = none → H' D = some (.lst acc) → P (i + 1) (acc ++ [v]) (hid D H'')) → R v H'') → te ((wipe σ vs).set slot (some (.int (lo + i)))) H' R)
    (q : ∀ (H' : Hp) (l : Addr) (acc : List V), L2.Same H H' → H l = none → H' l = some (.lst acc) → acc.length = n → P n acc (hid l H') → Q (.ref l) H') :
    kLc (gName slot) tYes te vs σ Q (Itr lo n) H := by
  intro L hL
  have hw : ∀ (τ : L2.St) (x : V), wipe (τ.set slot (some x)) [slot] = wipe τ [slot] := fun τ x => by simp [wipe, List.set_set]
  have hw2 : wipe (wipe σ vs) vs = wipe σ vs := by subst hv; simp [wipe, List.set_set]
  refine lc_range (fun i H' => ∃ acc : List V, acc.length = i ∧ H' L = some (.lst acc) ∧ L2.Same H H' ∧ P i acc (hid L H')) ⟨[], rfl, upd_same, fun b o e => by rw [upd_ne (ne_of_none e hL)]; exact e, by rw [hid_upd, hid_none hL]; exact h0⟩ ?_ ?_
  · rintro i H' hi ⟨acc, el, eL, s, hp⟩
    refine ⟨?_, ?_⟩
    · subst hv
      rw [hw]
      exact hw2
    · show te ((wipe σ vs).set slot (some (.int (lo + i)))) H' _
      refine hs i acc (hid L H') H' hi (same_hid s hL) hp hid_same _ fun v H'' s2 hP => ⟨acc, s2 _ _ eL, ?_, acc ++ [v], ?_, upd_same, ?_, ?_⟩
      · rw [el, sz]
        omega
      · rw [List.length_append, el]; rfl
      · intro b o e
        rw [upd_ne (ne_of_none e hL)]
        exact s2 _ _ (s _ _ e)
      · rw [hid_upd]
        exact hP L hid_at eL
  · rintro H' ⟨acc, el, eL, s, hp⟩
    exact q H' L acc s hL eL el hp
theorem keeps_hid {H : Hp} {D : Addr} {xs : List V} (h : H D = some (.lst xs)) : Keeps H (hid D H) := fun b o f e => by
  rw [hid_ne (ne_of e h (by rintro rfl; exact f))]
  exact e
theorem Keeps.hid {H H' : Hp} {D : Addr} (k : Keeps H H') (n : H D = none) : Keeps H (hid D H') := fun b o f e => by
  rw [hid_ne (ne_of_none e n)]
  exact k _ _ f e
mutual
/-- data of tuples alone -/
def tOnly : PyData → Bool
  | .none => true
  | .bool _ => true
  | .int _ => true
  | .str _ => true
  | .tuple ds => tOnlyAll ds
  | _ => false
def tOnlyAll : List PyData → Bool
  | [] => true
  | d :: ds => tOnly d && tOnlyAll ds
end
mutual
theorem Dp.keeps {K : PySem.W.Frag} {H H' : Hp} (s : Keeps H H') : ∀ (d : PyData) (v : V), tOnly d = true → Dp K H v d → Dp K H' v d
  | .none, _, _, h => by cases h; exact .non
  | .bool b, _, _, h => by cases h; exact .bl b
  | .int i, _, _, h => by cases h; exact .int i
  | .str x, _, _, h => by cases h; exact .str x
  | .list ds, _, t, _ => by simp [tOnly] at t
  | .tuple ds, _, t, h => by
    cases h with
    | tup hs ha => exact .tup (s.tup hs) (DpAll.keeps s ds _ (by simpa [tOnly] using t) ha)
  | .dict _, _, _, h => by cases h
theorem DpAll.keeps {K : PySem.W.Frag} {H H' : Hp} (s : Keeps H H') : ∀ (ds : List PyData) (vs : List V), tOnlyAll ds = true → DpAll K H vs ds → DpAll K H' vs ds
  | [], _, _, h => by cases h; exact .nil
  | d :: ds, _, t, h => by
    cases h with
    | cons h1 h2 =>
      have t' : tOnly d = true ∧ tOnlyAll ds = true := by simpa [tOnlyAll] using t
      exact .cons (Dp.keeps s d _ t'.1 h1) (DpAll.keeps s ds _ t'.2 h2)
end
/-- a block's value: data of tuples, not deep -/
def Bk (K : PySem.W.Frag) (H : Hp) (v : V) : Prop := ∃ d, Dp K H v d ∧ Fl 3 d ∧ tOnly d = true
theorem Bk.keeps {K : PySem.W.Frag} {H H' : Hp} {v : V} (s : Keeps H H') (h : Bk K H v) : Bk K H' v := by
  obtain ⟨d, h1, h2, h3⟩ := h
  exact ⟨d, Dp.keeps s d v h3 h1, h2, h3⟩
theorem Bk.non {K : PySem.W.Frag} {H : Hp} : Bk K H .non := ⟨.none, .non, Fl.non 3, rfl⟩
theorem tOnly_ints : ∀ ns : List Int, tOnlyAll (ns.map PyData.int) = true
  | [] => rfl
  | n :: ns => by rw [List.map_cons, tOnlyAll, tOnly, tOnly_ints ns]; rfl
/-- a block that the text writes: (kind, sequence, rank, body), the body a tuple of ints -/
theorem Bk.mk {K : PySem.W.Frag} {H : Hp} {t b : Addr} {i j k : Int} {ns : List Int} (h : H t = some (.tup [.int i, .int j, .int k, .ref b])) (hb : SqT K H b (ns.map V.int)) : Bk K H (.ref t) :=
  ⟨.tuple [.int i, .int j, .int k, .tuple (ns.map PyData.int)], .tup (.of h) (.cons (.int _) (.cons (.int _) (.cons (.int _) (.cons (.tup hb (DpAll.ints ns)) .nil)))), (Fl.tup (Fl.cons (Fl.int _ _) (Fl.cons (Fl.int _ _) (Fl.cons (Fl.int _ _) (Fl.cons (Fl.ints ns) Fl.nil))))).mono (by decide),
    by simp [tOnly, tOnlyAll, tOnly_ints]⟩
/-- equal values are equal -/
theorem r_neB {K : PySem.W.Frag} {H : Hp} {v : V} {Q : V → Hp → Prop} (h : Bk K H v) (q : Q (.bl false) H) : rNeD K v v H Q := by
  obtain ⟨d, h1, h2, _⟩ := h
  refine r_ned h1 h1 h2.shaped h2.shaped ?_
  rw [h2.self]
  exact q
/-! ### the device -/
structure DevM where
  lay : Addr
  sure : List V
  shown : List V
  wait : List (Int × V)
  left : Option Int
  off : Bool
def leftV : Option Int → V
  | none => .non
  | some n => .int n
structure DevFs (fs : List (Str × V)) (m : DevM) (su sh un : Addr) : Prop where
  few : fs.length ≤ 20
  lay : fs.lookup ("layout" : Str) = some (.ref m.lay)
  sure : fs.lookup ("_sure" : Str) = some (.ref su)
  shown : fs.lookup ("_shown" : Str) = some (.ref sh)
  uns : fs.lookup ("_unsure" : Str) = some (.ref un)
  left : fs.lookup ("_commands_left" : Str) = some (leftV m.left)
  off : fs.lookup ("_power_is_off" : Str) = some (.bl m.off)
  nT : fs.lookup ("_takes_place" : Str) = none
  nR : fs.lookup ("read" : Str) = none
  nW : fs.lookup ("write" : Str) = none
  nB : fs.lookup ("barrier" : Str) = none
  nC : fs.lookup ("cut_after" : Str) = none
  nP : fs.lookup ("pending" : Str) = none
  nS : fs.lookup ("sure_blocks" : Str) = none
  nU : fs.lookup ("was_cut" : Str) = none
  nL : fs.lookup ("left" : Str) = none
  nK : fs.lookup ("fork" : Str) = none
  nG : fs.lookup ("written_blocks" : Str) = none
theorem DevFs.to {fs : List (Str × V)} {m m' : DevM} {su sh un : Addr} (h : DevFs fs m su sh un) (e1 : m'.lay = m.lay) (e2 : m'.left = m.left) (e3 : m'.off = m.off) : DevFs fs m' su sh un := by
  obtain ⟨h1, h2, h3, h4, h5, h6, h7, g1, g2, g3, g4, g5, g6, g7, g8, g9, g10, g11⟩ := h
  exact ⟨h1, by rw [e1]; exact h2, h3, h4, h5, by rw [e2]; exact h6, by rw [e3]; exact h7, g1, g2, g3, g4, g5, g6, g7, g8, g9, g10, g11⟩
/-- a device over what stood ahead of it -/
structure DevIn (C : Addr) (H0 H : Hp) (d : Addr) (m : DevM) : Prop where
  same : Same H0 H
  new : H0 d = none
  at_ : ∃ (dx : Addr) (fs : List (Str × V)) (su sh un : Addr) (us : List Addr), H d = some (.ins C dx fs) ∧ DevFs fs m su sh un ∧ H0 su = none ∧ H0 sh = none ∧ H0 un = none ∧ su ≠ sh ∧ su ≠ un ∧ sh ≠ un ∧
    H su = some (.lst m.sure) ∧ H sh = some (.lst m.shown) ∧ H un = some (.lst (us.map V.ref)) ∧ Paired (fun (u : Addr) (p : Int × V) => H u = some (.tup [.int p.1, p.2])) us m.wait
theorem pairs_keeps {H H' : Hp} (s : Keeps H H') : ∀ {us : List Addr} {ps : List (Int × V)}, Paired (fun (u : Addr) (p : Int × V) => H u = some (.tup [.int p.1, p.2])) us ps → Paired (fun (u : Addr) (p : Int × V) => H' u = some (.tup [.int p.1, p.2])) us ps
  | _, _, .nil => .nil
  | _, _, .cons h t => .cons (s _ _ trivial h) (pairs_keeps s t)
theorem DevIn.mono {C : Addr} {H0 H H' : Hp} {d : Addr} {m : DevM} (s : Same H H') (h : DevIn C H0 H d m) : DevIn C H0 H' d m := by
  obtain ⟨s0, n0, dx, fs, su, sh, un, us, h1, h2, h3, h4, h5, h6, h7, h8, h9, h10, h11, h12⟩ := h
  exact ⟨s0.trans s, n0, dx, fs, su, sh, un, us, s _ _ h1, h2, h3, h4, h5, h6, h7, h8, s _ _ h9, s _ _ h10, s _ _ h11, pairs_keeps (Keeps.of s) h12⟩
/-- what stood ahead of it is changed -/
theorem DevIn.rebase {C : Addr} {H0 H : Hp} {d e : Addr} {m : DevM} {o ol : HO} (h : DevIn C H0 H d m) (he : H0 e = some ol) (hn : ¬ Fixed ol) : DevIn C (upd H0 e o) (upd H e o) d m := by
  obtain ⟨s0, n0, dx, fs, su, sh, un, us, h1, h2, h3, h4, h5, h6, h7, h8, h9, h10, h11, h12⟩ := h
  have ne : ∀ {x : Addr}, H0 x = none → x ≠ e := fun h z => by rw [z, he] at h; cases h
  refine ⟨fun b u q => ?_, by rw [upd_ne (ne n0)]; exact n0, dx, fs, su, sh, un, us, by rw [upd_ne (ne n0)]; exact h1, h2, by rw [upd_ne (ne h3)]; exact h3, by rw [upd_ne (ne h4)]; exact h4, by rw [upd_ne (ne h5)]; exact h5, h6, h7, h8,
    by rw [upd_ne (ne h3)]; exact h9, by rw [upd_ne (ne h4)]; exact h10, by rw [upd_ne (ne h5)]; exact h11, pairs_keeps (Keeps.upd (s0 _ _ he) hn rfl) h12⟩
  by_cases hb : b = e
  · rw [hb, upd_same] at q
    rw [hb, upd_same]
    exact q
  · rw [upd_ne hb] at q
    rw [upd_ne hb]
    exact s0 _ _ q

/-! ### methods of the device -/
def putB (xs : List V) (a : Int) (v : V) : List V := if 0 ≤ a ∧ a < xs.length then xs.set a.toNat v else xs
theorem putB_len {xs : List V} {a : Int} {v : V} : (putB xs a v).length = xs.length := by
  unfold putB
  split
  · rw [List.length_set]
  · rfl
def sp_put_block : Sp := fun vs H Q _ => ∃ (l : Addr) (a : Int) (v : V) (xs : List V), vs = [.ref l, .int a, v] ∧ H l = some (.lst xs) ∧ ∀ H', upd H l (.lst (putB xs a v)) = H' → Q .non H'
theorem upd_self {H : Hp} {l : Addr} {o : HO} (h : H l = some o) : upd H l o = H := by
  funext b
  by_cases hb : b = l
  · rw [hb, upd_same, h]
  · rw [upd_ne hb]
theorem ok_put_block (T : Txt K mg) : FnOk P w K mg base CX0 1 T.a_put_block T.fd_put_block ["blocks", "address", "block"] sp_put_block := by
  refine T.F_put_block.ok sc_put_block (fun vs H Q E h => ?_) (fun cdv A outer s H vs Q E hr h => ?_)
  · obtain ⟨l, a, v, xs, rfl, _⟩ := h
    rfl
  · refine ⟨_, (pss_one (ps_if (pt_chain op_le op_lt pe_int (pv 1) (pe_callB (c_len) (by rfl) T.n_len (by decide +kernel) (pa_cons (pv 0) pa_nil)))
       (pss_one (ps_asg (pv 2) (pg_sub (pv 0) (pv 1) set_list)))
       pss_nil)), ?_⟩
    try dsimp only [cxOf, Cx.nox, Cx.wish]
    obtain ⟨l, a, v, xs, rfl, hl, q⟩ := h
    walk_at "rd"
    refine r_ite (fun h0 => ?_) (fun h0 => ?_)
    · walk_at "rd"
      refine r_ite (fun h1 => ?_) (fun h1 => ?_)
      · walk_at "rd"
        refine r_setl hl (ixN_ok h0 h1) ?_
        exact q _ (by rw [putB, if_pos ⟨h0, h1⟩])
      · walk_at "rd"
        exact q _ (by rw [putB, if_neg (fun z => h1 z.2)]; exact upd_self hl)
    · walk_at "rd"
      exact q _ (by rw [putB, if_neg (fun z => h0 z.1)]; exact upd_self hl)
theorem putF_same {f : Str} {x v : V} : ∀ {fs : List (Str × V)}, fs.lookup f = some v → (putF f x fs).length = fs.length
  | [], h => by simp at h
  | (g, y) :: r, h => by
    unfold putF
    by_cases e : g = f
    · rw [if_pos e]
      rfl
    · rw [if_neg e]
      rw [List.lookup_cons] at h
      have hb : (f == g) = false := by
        cases hb : f == g with
        | false => rfl
        | true => exact absurd (eq_of_beq hb).symm e
      rw [hb] at h
      rw [List.length_cons, List.length_cons, putF_same h]
/-- a command is counted -/
def takeF (m : DevM) : DevM := match m.left with
  | some n => if n = 0 then { m with off := true } else { m with left := some (n - 1) }
  | none => m
theorem takeF_lists (m : DevM) : (takeF m).sure = m.sure ∧ (takeF m).shown = m.shown ∧ (takeF m).wait = m.wait ∧ (takeF m).lay = m.lay := by
  unfold takeF
  split
  · split <;> exact ⟨rfl, rfl, rfl, rfl⟩
  · exact ⟨rfl, rfl, rfl, rfl⟩
def sp_takes (C : Addr) : Sp := fun vs H Q _ => ∃ (H0 : Hp) (d : Addr) (m : DevM), vs = [.ref d] ∧ DevIn C H0 H d m ∧ ∀ H', DevIn C H0 H' d (takeF m) → Keeps H H' → Q (.bl (!(takeF m).off)) H'
/-- a field of the device is set -/
theorem DevFs.left' {fs : List (Str × V)} {m : DevM} {su sh un : Addr} (h : DevFs fs m su sh un) (n : Option Int) : DevFs (putF "_commands_left" (leftV n) fs) { m with left := n } su sh un := by
  obtain ⟨h1, h2, h3, h4, h5, h6, h7, g1, g2, g3, g4, g5, g6, g7, g8, g9, g10, g11⟩ := h
  exact ⟨by rw [putF_same h6]; exact h1, by walk_at "lk", by walk_at "lk", by walk_at "lk", by walk_at "lk", by walk_at "lk", by walk_at "lk", by walk_at "lk", by walk_at "lk", by walk_at "lk", by walk_at "lk", by walk_at "lk", by walk_at "lk", by walk_at "lk", by walk_at "lk", by walk_at "lk", by walk_at "lk", by walk_at "lk"⟩
theorem DevFs.off' {fs : List (Str × V)} {m : DevM} {su sh un : Addr} (h : DevFs fs m su sh un) (b : Bool) : DevFs (putF "_power_is_off" (.bl b) fs) { m with off := b } su sh un := by
  obtain ⟨h1, h2, h3, h4, h5, h6, h7, g1, g2, g3, g4, g5, g6, g7, g8, g9, g10, g11⟩ := h
  exact ⟨by rw [putF_same h7]; exact h1, by walk_at "lk", by walk_at "lk", by walk_at "lk", by walk_at "lk", by walk_at "lk", by walk_at "lk", by walk_at "lk", by walk_at "lk", by walk_at "lk", by walk_at "lk", by walk_at "lk", by walk_at "lk", by walk_at "lk", by walk_at "lk", by walk_at "lk", by walk_at "lk", by walk_at "lk"⟩
theorem DevFs.uns' {fs : List (Str × V)} {m : DevM} {su sh un : Addr} (h : DevFs fs m su sh un) (u : Addr) (w : List (Int × V)) : DevFs (putF "_unsure" (.ref u) fs) { m with wait := w } su sh u := by
  obtain ⟨h1, h2, h3, h4, h5, h6, h7, g1, g2, g3, g4, g5, g6, g7, g8, g9, g10, g11⟩ := h
  exact ⟨by rw [putF_same h5]; exact h1, by walk_at "lk", by walk_at "lk", by walk_at "lk", by walk_at "lk", by walk_at "lk", by walk_at "lk", by walk_at "lk", by walk_at "lk", by walk_at "lk", by walk_at "lk", by walk_at "lk", by walk_at "lk", by walk_at "lk", by walk_at "lk", by walk_at "lk", by walk_at "lk", by walk_at "lk"⟩
theorem insNF {C dx : Addr} {fs : List (Str × V)} : ¬ Fixed (.ins C dx fs) := fun z => z
theorem lstNF {xs : List V} : ¬ Fixed (.lst xs) := fun z => z
/-- the device's own record is changed -/
theorem DevIn.setd {C : Addr} {H0 H H' : Hp} {d dx : Addr} {m m' : DevM} {fs fs' : List (Str × V)} {su sh un : Addr} {us : List Addr} (s0 : Same H0 H) (n0 : H0 d = none) (h1 : H d = some (.ins C dx fs)) (e : upd H d (.ins C dx fs') = H') (h2 : DevFs fs' m' su sh un)
    (h3 : H0 su = none) (h4 : H0 sh = none) (h5 : H0 un = none) (h6 : su ≠ sh) (h7 : su ≠ un) (h8 : sh ≠ un) (h9 : H su = some (.lst m.sure)) (h10 : H sh = some (.lst m.shown)) (h11 : H un = some (.lst (us.map V.ref)))
    (h12 : Paired (fun (u : Addr) (p : Int × V) => H u = some (.tup [.int p.1, p.2])) us m.wait) (e1 : m'.sure = m.sure) (e2 : m'.shown = m.shown) (e3 : m'.wait = m.wait) : DevIn C H0 H' d m' := by
  have k : ∀ {x : Addr} {xs : List V}, H x = some (.lst xs) → H' x = some (.lst xs) := fun hx => at_keep e hx h1 (by intro z; cases z)
  exact ⟨Same.old s0 n0 e, n0, dx, fs', su, sh, un, us, Sg.at_new e, h2, h3, h4, h5, h6, h7, h8, by rw [e1]; exact k h9, by rw [e2]; exact k h10, k h11, by rw [e3]; exact pairs_keeps (Keeps.upd h1 insNF e) h12⟩
theorem ok_Device__takes_place (T : Txt K mg) : FnOk P w K mg base CX0 1 T.a_Device__takes_place T.fd_Device__takes_place ["self"] (sp_takes T.A_Device) := by
  refine T.F_Device__takes_place.ok sc_Device__takes_place (fun vs H Q E h => ?_) (fun cdv A outer s H vs Q E hr h => ?_)
  · obtain ⟨H0, d, m, rfl, _⟩ := h
    rfl
  · refine ⟨_, (C8.pss_cut (ps_if (pt_cmpR op_eq (pe_fld (pv 0) rfl) pe_int (nomark _))
       (pss_one (ps_fld (pv 0) pe_bl rfl))
       (pss_one (ps_if (pt_cmp (pc_notN (pe_fld (pv 0) rfl)) rfl)
       (pss_one (ps_fldaug (pv 0) pe_int in_sub))
       pss_nil)))
       (pss_one (ps_ret (pe_not (pe_fld (pv 0) rfl))))), ?_⟩
    try dsimp only [cxOf, Cx.nox, Cx.wish]
    obtain ⟨H0, d, m, rfl, ⟨s0, n0, dx, fs, su, sh, un, us, h1, h2, h3, h4, h5, h6, h7, h8, h9, h10, h11, h12⟩, q⟩ := h
    have cl := T.cl_Device
    have na1 := T.na_Device__commands_left
    have na2 := T.na_Device__power_is_off
    obtain ⟨few, lkl, lks, lkh, lku, lkc, lko, _⟩ := id h2
    walk_at "rd"
    refine r_cut (fun σ' H' => σ' = [some (.ref d)] ∧ DevIn T.A_Device H0 H' d (takeF m) ∧ Keeps H H') ?_ ?_
    · walk_at "rd"
      have base : takeF m = m → DevIn T.A_Device H0 H d (takeF m) := fun e => by
        rw [e]
        exact ⟨s0, n0, dx, fs, su, sh, un, us, h1, h2, h3, h4, h5, h6, h7, h8, h9, h10, h11, h12⟩
      cases hl : m.left with
      | none =>
        rw [hl] at lkc
        have lkc : fs.lookup ("_commands_left" : Str) = some .non := lkc
        show rEq .non (.int 0) H _
        refine r_eq rfl ?_
        walk_at "rd"
        exact ⟨rfl, base (by unfold takeF; rw [hl]), Keeps.refl H⟩
      | some n =>
        rw [hl] at lkc
        have lkc : fs.lookup ("_commands_left" : Str) = some (.int n) := lkc
        show rEq (.int n) (.int 0) H _
        walk_at "rd"
        refine r_ite (fun h0 => ?_) (fun h0 => ?_)
        · walk_at "rd"
          rename_i H' e _
          refine ⟨rfl, ?_, Keeps.upd h1 insNF e⟩
          have em : takeF m = { m with off := true } := by unfold takeF; rw [hl]; exact if_pos h0
          rw [em]
          exact DevIn.setd (m := m) s0 n0 h1 e (h2.off' true) h3 h4 h5 h6 h7 h8 h9 h10 h11 h12 rfl rfl rfl
        · walk_at "rd"
          refine ⟨_, rfl, d, _, dx, fs, _, rfl, h1, cl, na1, lkc, ?_⟩
          refine ⟨_, _, rfl, rfl, dx, fs, h1, by omega, ?_⟩
          have em : takeF m = { m with left := some (n - 1) } := by unfold takeF; rw [hl]; exact if_neg h0
          refine ⟨rfl, ?_, Keeps.upd h1 insNF rfl⟩
          rw [em]
          exact DevIn.setd (m := m) s0 n0 h1 rfl (h2.left' (some (n - 1))) h3 h4 h5 h6 h7 h8 h9 h10 h11 h12 rfl rfl rfl
    · rintro _ H' ⟨rfl, hD, hK⟩
      obtain ⟨s0', n0', dx', fs', su', sh', un', us', h1', h2', _⟩ := id hD
      have lko' := h2'.off
      walk_at "rd"
      exact q _ hD hK
def readF (m : DevM) (a : Int) : V := if 0 ≤ a ∧ a < m.shown.length then m.shown.getD a.toNat .non else .non
def sp_read (C : Addr) : Sp := fun vs H Q _ => ∃ (H0 : Hp) (d : Addr) (m : DevM) (a : Int), vs = [.ref d, .int a] ∧ DevIn C H0 H d m ∧ Q (readF m a) H
theorem at_vals {xs : List V} {k : Int} (h0 : 0 ≤ k) (h1 : k < xs.length) : atI xs k = some (xs.getD k.toNat .non) := by
  obtain ⟨n, rfl⟩ := Int.eq_ofNat_of_zero_le h0
  have hn : n < xs.length := by omega
  refine atI_nat ?_
  rw [List.getElem?_eq_getElem hn, List.getD_eq_getElem?_getD, Int.toNat_natCast, List.getElem?_eq_getElem hn]
  rfl
theorem ok_Device_read (T : Txt K mg) : FnOk P w K mg base CX0 1 T.a_Device_read T.fd_Device_read ["self", "address"] (sp_read T.A_Device) := by
  refine T.F_Device_read.ok sc_Device_read (fun vs H Q E h => ?_) (fun cdv A outer s H vs Q E hr h => ?_)
  · obtain ⟨H0, d, m, a, rfl, _⟩ := h
    rfl
  · refine ⟨_, (pss_cons (ps_if (pt_not (pt_chain op_le op_lt pe_int (pv 1) (pe_callB (c_len) (by rfl) T.n_len (by decide +kernel) (pa_cons (pe_fld (pv 0) rfl) pa_nil))))
       (pss_one (ps_ret pe_non))
       pss_nil)
       (pss_one (ps_ret (pe_ix ix_list (pe_fld (pv 0) rfl) (pv 1) (fun _ _ => rfl))))), ?_⟩
    try dsimp only [cxOf, Cx.nox, Cx.wish]
    obtain ⟨H0, d, m, a, rfl, ⟨s0, n0, dx, fs, su, sh, un, us, h1, h2, h3, h4, h5, h6, h7, h8, h9, h10, h11, h12⟩, q⟩ := h
    have cl := T.cl_Device
    have na1 := T.na_Device__shown
    obtain ⟨few, lkl, lks, lkh, lku, lkc, lko, _⟩ := id h2
    by_cases ha : 0 ≤ a ∧ a < m.shown.length
    · obtain ⟨a0, a1⟩ := ha
      walk_at "rdo"
      refine r_ixl (by walk_at "hp") (at_vals a0 a1) ?_
      rw [readF, if_pos ⟨a0, a1⟩] at q
      exact q
    · rw [readF, if_neg ha] at q
      walk_at "rd"
      refine r_ite (fun h0 => ?_) (fun h0 => ?_)
      · walk_at "rdo"
        exact q
      · walk_at "rdo"
        exact q
def writeF (m : DevM) (a : Int) (v : V) : DevM :=
  { takeF m with wait := if (takeF m).off then m.wait else m.wait ++ [(a, v)], shown := putB m.shown a v }
def sp_write (C : Addr) : Sp := fun vs H Q _ => ∃ (H0 : Hp) (d : Addr) (m : DevM) (a : Int) (v : V), vs = [.ref d, .int a, v] ∧ DevIn C H0 H d m ∧ m.wait.length ≤ 1000 ∧ ∀ H', DevIn C H0 H' d (writeF m a v) → Keeps H H' → Q .non H'
theorem ok_Device_write (T : Txt K mg) : FnOk P w K mg base CX0 2 T.a_Device_write T.fd_Device_write ["self", "address", "block"] (sp_write T.A_Device) := by
  refine T.F_Device_write.ok sc_Device_write (fun vs H Q E h => ?_) (fun cdv A outer s H vs Q E hr h => ?_)
  · obtain ⟨H0, d, m, a, v, rfl, _⟩ := h
    rfl
  · refine ⟨_, (C8.pss_cut (ps_if (pt_val (pe_meth0 (pv 0) T.cl_Device T.me_Device__takes_place (ok_Device__takes_place T) (hr.mono (by decide)) T.b_Device__takes_place .nil pass0))
       (pss_one (ps_expr (pe_bm PySem.F.plainAttrs_list PySem.F.slot_list_append PySem.F.type_list_append mt_append (pe_fld (pv 0) rfl) (pa_cons (pe_tup (pa_cons (pv 1) (pa_cons (pv 2) pa_nil))) pa_nil))))
       pss_nil)
       (pss_one (ps_expr (pe_call (ok_put_block T) (hr.mono (by decide)) rfl T.m_put_block T.F_put_block.kp T.b_put_block .nil pass0 (pa_cons (pe_fld (pv 0) rfl) (pa_cons (pv 1) (pa_cons (pv 2) pa_nil))))))), ?_⟩
    try dsimp only [cxOf, Cx.nox, Cx.wish]
    obtain ⟨H0, d, m, a, v, rfl, hD, hw, q⟩ := h
    have cl := T.cl_Device
    have na1 := T.na_Device__shown
    have na2 := T.na_Device__unsure
    obtain ⟨s0, n0, dx, fs, su, sh, un, us, h1, h2, _⟩ := id hD
    have nT := h2.nT
    walk_at "rd"
    refine r_cut (fun σ' H' => σ' = [some (.ref d), some (.int a), some v] ∧ DevIn T.A_Device H0 H' d { takeF m with wait := if (takeF m).off then m.wait else m.wait ++ [(a, v)] } ∧ Keeps H H') ?_ ?_
    · walk_at "rd"
      refine ⟨H0, d, m, rfl, hD, fun H1 hD1 hK1 => ?_⟩
      obtain ⟨t1, t2, t3, t4⟩ := takeF_lists m
      generalize takeF m = m1 at hD1 t1 t2 t3 t4
      walk_at "rd"
      refine to_ite (fun hb => ?_) (fun hb => ?_)
      · have ho : m1.off = false := by simpa using hb
        obtain ⟨s0', n0', dx', fs', su', sh', un', us', h1', h2', h3', h4', h5', h6', h7', h8', h9', h10', h11', h12'⟩ := id hD1
        have lku := h2'.uns
        walk_at "rd"
        rename_i tp ntp H2 s2 htp
        have hl' : us'.length ≤ 1000 := by rw [Paired.length h12', t3]; exact hw
        refine r_app (by walk_at "hp") (by rw [List.length_map, sz]; omega) ?_
        generalize hH : upd _ _ _ = H3
        refine ⟨rfl, ⟨Same.old (s0'.trans s2) h5' hH, n0', dx', fs', su', sh', un', us' ++ [tp], at_keep hH (s2 _ _ h1') (s2 _ _ h11') (by intro z; cases z), h2'.to rfl rfl rfl, h3', h4', h5', h6', h7', h8', ?_, ?_, ?_, ?_⟩, (hK1.trans (Keeps.of s2)).trans (Keeps.upd (s2 _ _ h11') lstNF hH)⟩
        · rw [← hH, upd_ne h7']
          exact s2 _ _ h9'
        · rw [← hH, upd_ne h8']
          exact s2 _ _ h10'
        · rw [← hH, upd_same, List.map_append]
          rfl
        · rw [ho, if_neg (by decide), ← t3]
          exact paired_snoc (pairs_keeps ((Keeps.of s2).trans (Keeps.upd (s2 _ _ h11') lstNF hH)) h12') (by rw [← hH, upd_ne (ne_of htp (s2 _ _ h11') (by intro z; cases z))]; exact htp)
      · have ho : m1.off = true := by simpa using hb
        refine ⟨rfl, ?_, hK1⟩
        rw [ho, if_pos rfl, ← t3]
        exact hD1
    · rintro _ H' ⟨rfl, hD', hK⟩
      obtain ⟨t1, t2, t3, t4⟩ := takeF_lists m
      obtain ⟨s0', n0', dx', fs', su', sh', un', us', h1', h2', h3', h4', h5', h6', h7', h8', h9', h10', h11', h12'⟩ := id hD'
      have lks := h2'.shown
      walk_at "rd"
      refine ⟨sh', a, v, _, rfl, h10', fun H2 hH => ?_⟩
      have kp : Keeps H' H2 := Keeps.upd h10' lstNF hH
      refine q _ ⟨Same.old s0' h4' hH, n0', dx', fs', su', sh', un', us', at_keep hH h1' h10' (by intro z; cases z), h2'.to rfl rfl rfl, h3', h4', h5', h6', h7', h8', ?_, ?_, ?_, pairs_keeps kp h12'⟩ (hK.trans kp)
      · rw [← hH, upd_ne h6']
        exact h9'
      · rw [← hH, upd_same]
        show some (HO.lst (putB (takeF m).shown a v)) = some (HO.lst (putB m.shown a v))
        rw [t2]
      · rw [← hH, upd_ne h8'.symm]
        exact h11'

/-! ### a device is made -/
theorem rep_non (n : Nat) : (List.replicate n [V.non]).flatten = List.replicate n V.non := by
  induction n with
  | zero => rfl
  | succ n ih => rw [List.replicate_succ, List.flatten_cons, ih, List.replicate_succ]; rfl
def newM (lay : Addr) (xs : List V) : DevM := ⟨lay, xs, xs, [], none, false⟩
def sp_dev_init (K : PySem.W.Frag) (C CL : Addr) : Sp := fun vs H Q _ => ∃ (H0 : Hp) (d dx lay : Addr) (L : Lay) (b : V) (xs : List V), vs = [.ref d, .ref lay, b] ∧ H d = some (.ins C dx []) ∧ Same H0 H ∧ H0 d = none ∧ LayAt CL L H lay ∧
  ((b = .non ∧ 0 ≤ L.dev ∧ L.dev ≤ 100000 ∧ xs = List.replicate L.dev.toNat V.non) ∨ ∃ l, b = .ref l ∧ SqL K H l xs) ∧ ∀ H', DevIn C H0 H' d (newM lay xs) → Keeps H H' → Q .non H'
theorem ok_Device___init (T : Txt K mg) : FnOk P w K mg base CX0 1 T.a_Device___init T.fd_Device___init ["self", "layout", "blocks"] (sp_dev_init K T.A_Device T.A_Layout) := by
  refine T.F_Device___init.ok (CX := CX0) sc_Device___init (fun vs H Q E h => ?_) (fun cdv A outer s H vs Q E hr h => ?_)
  · obtain ⟨H0, d, dx, lay, L, b, xs, rfl, _⟩ := h
    rfl
  · refine ⟨_, (C8.pss_cut (ps_if (pt_cmp (pc_isN (pv 2)) rfl)
       (pss_one (ps_set (i := 2) sc_Device___init.nd rfl (Or.inl rfl) (pe_op op_rep (pe_lst (pa_cons pe_non pa_nil)) (pe_fld (pv 1) rfl))))
       pss_nil)
       (pss_cons (ps_fld (pv 0) (pv 1) rfl)
       (pss_cons (ps_fld (pv 0) (pe_callTy c_list (by rfl) T.n_list (by decide +kernel) (pa_cons (pv 2) pa_nil)) rfl)
       (pss_cons (ps_fld (pv 0) (pe_callTy c_list (by rfl) T.n_list (by decide +kernel) (pa_cons (pv 2) pa_nil)) rfl)
       (pss_cons (ps_fld (pv 0) (pe_lst pa_nil) rfl)
       (pss_cons (ps_fld (pv 0) pe_non rfl)
       (pss_one (ps_fld (pv 0) pe_bl rfl)))))))), ?_⟩
    try dsimp only [cxOf, Cx.nox, Cx.wish]
    obtain ⟨H0, d, dx, lay, L, b, xs, rfl, hd, s0, n0, ⟨ldx, lfs, hlay, hL⟩, hb, q⟩ := h
    have clL := T.cl_Layout
    have naL := T.na_Layout_device_blocks
    have lkL := hL.dev
    have cl := T.cl_Device
    have na1 := T.na_Device_layout
    have na2 := T.na_Device__sure
    have na3 := T.na_Device__shown
    have na4 := T.na_Device__unsure
    have na5 := T.na_Device__commands_left
    have na6 := T.na_Device__power_is_off
    walk_at "rd"
    refine r_cut (fun σ' H' => ∃ l, σ' = [some (.ref d), some (.ref lay), some (.ref l)] ∧ Same H H' ∧ SqL K H' l xs) ?_ ?_
    · rcases hb with ⟨rfl, d0, d1, rfl⟩ | ⟨l, rfl, hl⟩
      · walk_at "rd"
        exact ⟨_, rfl, by walk_at "sm", by walk_at "hp"⟩
      · walk_at "rd"
        exact ⟨l, rfl, Same.refl _, hl⟩
    · rintro _ H1 ⟨l, rfl, s1, hl⟩
      have hd1 : H1 d = some (.ins T.A_Device dx []) := s1 _ _ hd
      walk_at "rd"
      rename_i H2 e2 h2
      refine r_listl (SqL.keep hl hd1 e2) ?_
      walk_at "al"
      walk_at "rd"
      rename_i su nsu H3 s3 hsu H4 e4 h4
      have hd3 := s3 _ _ h2
      refine r_listl (SqL.keep (s3.seq (SqL.keep hl hd1 e2)) hd3 e4) ?_
      walk_at "al"
      walk_at "rd"
      rename_i sh nsh H5 s5 hsh H6 e6 h6 un nun H7 s7 hun H8 e8 h8 H9 e9 h9 H10 e10 h10
      have b1 : Same H0 H2 := Same.old (s0.trans s1) n0 e2
      have b3 : Same H0 H4 := Same.old (b1.trans s3) n0 e4
      have b5 : Same H0 H6 := Same.old (b3.trans s5) n0 e6
      have b7 : Same H0 H8 := Same.old (b5.trans s7) n0 e8
      have b9 : Same H0 H10 := Same.old (Same.old b7 n0 e9) n0 e10
      have l4 : ∀ {x : Addr} {ys : List V}, H3 x = some (.lst ys) → H4 x = some (.lst ys) := fun h => at_keep e4 h hd3 (by intro z; cases z)
      have l6 : ∀ {x : Addr} {ys : List V}, H5 x = some (.lst ys) → H6 x = some (.lst ys) := fun h => at_keep e6 h (s5 _ _ h4) (by intro z; cases z)
      have l8 : ∀ {x : Addr} {ys : List V}, H7 x = some (.lst ys) → H8 x = some (.lst ys) := fun h => at_keep e8 h (s7 _ _ h6) (by intro z; cases z)
      have l9 : ∀ {x : Addr} {ys : List V}, H8 x = some (.lst ys) → H10 x = some (.lst ys) := fun h => at_keep e10 (at_keep e9 h h8 (by intro z; cases z)) h9 (by intro z; cases z)
      have c4 := l4 hsu
      have c6 := l6 (s5 _ _ c4)
      have c8 := l8 (s7 _ _ c6)
      have d6 := l6 hsh
      have d8 := l8 (s7 _ _ d6)
      have e8' := l8 hun
      have k2 : Keeps H1 H2 := Keeps.upd hd1 insNF e2
      have k4 : Keeps H2 H4 := (Keeps.of s3).trans (Keeps.upd hd3 insNF e4)
      have k6 : Keeps H4 H6 := (Keeps.of s5).trans (Keeps.upd (s5 _ _ h4) insNF e6)
      have k8 : Keeps H6 H8 := (Keeps.of s7).trans (Keeps.upd (s7 _ _ h6) insNF e8)
      have k10 : Keeps H8 H10 := (Keeps.upd h8 insNF e9).trans (Keeps.upd h9 insNF e10)
      refine q _ ⟨b9, n0, dx, _, su, sh, un, [], h10, ⟨Sg.putF_len (Sg.putF_len (Sg.putF_len (Sg.putF_len (Sg.putF_len (Sg.putF_len (Nat.zero_le _)))))), by walk_at "lk", by walk_at "lk", by walk_at "lk", by walk_at "lk", by walk_at "lk", by walk_at "lk", by walk_at "lk", by walk_at "lk", by walk_at "lk", by walk_at "lk", by walk_at "lk", by walk_at "lk", by walk_at "lk", by walk_at "lk", by walk_at "lk", by walk_at "lk", by walk_at "lk"⟩,
        b1.free nsu, b3.free nsh, b5.free nun, fun e => ?_, fun e => ?_, fun e => ?_, l9 c8, l9 d8, l9 e8', .nil⟩ ((Keeps.of s1).trans (k2.trans (k4.trans (k6.trans (k8.trans k10)))))
      · rw [← e, c4] at nsh
        cases nsh
      · rw [← e, c6] at nun
        cases nun
      · rw [← e, d6] at nun
        cases nun

structure LayB (L : Lay) : Prop where
  l0 : 45 ≤ L.last
  l1 : L.last ≤ 465
  d0 : 64 ≤ L.dev
  d1 : L.dev ≤ 1000
  z0 : 64 ≤ L.size
  z1 : L.size ≤ 256
  f0 : 32 ≤ L.fan
  f1 : L.fan ≤ 128
theorem Fits.bounds {s b z : Int} (h : Fits s b z) : LayB (layOf s b z) := by
  obtain ⟨s0, s1, b0, b1, hz, _⟩ := h
  have e : (s - 2) * (b - 1) + (b - 1) = (s - 1) * (b - 1) := by
    have e : s - 1 = (s - 2) + 1 := by omega
    rw [e, Int.add_mul, Int.one_mul]
  have h1 : 3 * (b - 1) ≤ (s - 1) * (b - 1) := Int.mul_le_mul_of_nonneg_right (by omega) (by omega)
  have h2 : (s - 1) * (b - 1) ≤ 15 * (b - 1) := Int.mul_le_mul_of_nonneg_right (by omega) (by omega)
  have h3 : 4 * b ≤ s * b := Int.mul_le_mul_of_nonneg_right (by omega) (by omega)
  have h4 : s * b ≤ 16 * b := Int.mul_le_mul_of_nonneg_right (by omega) (by omega)
  have e1 : (layOf s b z).last = (s - 1) * (b - 1) := e
  have e2 : (layOf s b z).dev = 2 * ((2 * (4 * ((s - 1) * (b - 1)) + 6 + s) + z - 1) / z) + s * b := by
    show 2 * ((2 * (4 * ((s - 2) * (b - 1) + (b - 1)) + 6 + s) + z - 1) / z) + s * b = _
    rw [e]
  have e3 : (layOf s b z).size = z := rfl
  have e4 : (layOf s b z).fan = z / 2 := rfl
  generalize (s - 1) * (b - 1) = l at h1 h2 e1 e2
  generalize s * b = d at h3 h4 e2
  constructor
  · omega
  · omega
  · rcases hz with rfl | rfl | rfl <;> omega
  · rcases hz with rfl | rfl | rfl <;> omega
  · rcases hz with rfl | rfl | rfl <;> omega
  · rcases hz with rfl | rfl | rfl <;> omega
  · rcases hz with rfl | rfl | rfl <;> omega
  · rcases hz with rfl | rfl | rfl <;> omega

/-! ### xs.extend(t), t a tuple -/
section
open PySem.AutoSeq1
theorem ext_tupG (l : Addr) (items : Array Value) (n : Nat) (b : Addr) (items2 : Array Value) (n2 : Nat) (dd : Option Addr) (sl : Array (Option Value)) (hs0 : ¬(!items.isEmpty && Builtin.List.listTooLong (items.size + items2.size)) = true) (hs1 : items.size ≤ sizeLine) (hs2 : items.size + items2.size ≤ sizeLine + 1 := by seq_fits) :
    Meets (Builtin.«list.extend» ⟨[.ref l, .ref b], []⟩) (fun _ R s => s.heap.get? l = some { cls := .type "list", dict := none, data := .seq items n, slots := #[] } ∧ s.heap.get? b = some { cls := .type "tuple", dict := dd, data := .seq items2 n2, slots := sl } ∧ R (.ok (.ret Value.none)) { s with heap := s.heap.update l (Obj.mapSeq fun x => x ++ items2), toks := s.toks }) :=
  .of_wp fun prog w A R s h => by
    obtain ⟨hp, g, d, tk, os⟩ := s; obtain ⟨hl, hb, h⟩ := h; have f1 := idx_int; have f2 := sub_tuple_tuple; have f3 := sub_list_list; have f4 := sub_tuple_list; have f5 := sub_list_tuple;
    have hz' : (items ++ items2).size ≤ sizeLine + 1 := by rw [Array.size_append]; exact hs2
    wp_walk using (wpAny_updateSeq hl rfl (hz := hs1) (_hz' := hz')), wpAny_loadPart' hl, wpAny_loadPart' hb; exact ⟨_, rfl, h⟩
end
def rExtT (K : PySem.W.Frag) : V → List V → Hp → VK → Prop := fun x vs H Q => ∃ l b xs zs, x = .ref l ∧ vs = [.ref b] ∧ H l = some (.lst xs) ∧ SqT K H b zs ∧ xs.length + zs.length ≤ sizeLine ∧ Q .non (upd H l (.lst (xs ++ zs)))
theorem mt_extT {X : Cx} : MtM X "list.extend" (rExtT X.K) := by
  intro pins s σ H x vs v us Q I rx rv h
  obtain ⟨l, b, xs, zs, rfl, rfl, hH, hB, hz, q⟩ := h
  cases rx
  obtain ⟨u, rfl, ru⟩ := rv.one
  cases ru
  obtain ⟨z, its, n, r, hl, e⟩ := I.lstM hH
  obtain ⟨its2, r2, ⟨⟨oc, od, odt, os⟩, e2, hcl, n2, hdt⟩, hl2⟩ := I.tuple hB
  simp only at hcl hdt
  subst hcl
  subst hdt
  have e3 := r2.length
  have hsz : its.toArray.size + its2.toArray.size ≤ sizeLine := by rw [List.size_toArray, List.size_toArray]; omega
  have hlong : ¬ (!its.toArray.isEmpty && Builtin.List.listTooLong (its.toArray.size + its2.toArray.size)) = true := by
    rw [notLongL hsz, Bool.and_false]
    exact Bool.false_ne_true
  refine call_meets F.slot_list_extend ⟨_, e, rfl⟩ F.entry_list_extend (F.args_list_extend_2 _ _)
    (ext_tupG l its.toArray n b its2.toArray n2 _ _ hlong (by rw [List.size_toArray]; omega) (by omega)) ⟨e, e2, ?_⟩
  refine ⟨.non, _, I.lset (its' := its ++ its2) hH e (by simp) (r.append r2) ?_, rfl, q⟩
  rw [List.length_append]
  omega
theorem r_extT {K : PySem.W.Frag} {l b : Addr} {xs zs : List V} {H : Hp} {Q : V → Hp → Prop} (h : H l = some (.lst xs)) (hb : SqT K H b zs) (hz : xs.length + zs.length ≤ 1000000) (q : Q .non (upd H l (.lst (xs ++ zs)))) : rExtT K (.ref l) [.ref b] H Q :=
  ⟨l, b, xs, zs, rfl, rfl, h, hb, by rw [sz]; omega, q⟩

/-! ### blocks whose body is a tuple of ints -/
structure PI where
  kind : Int
  seq : Int
  rank : Int
  body : List Int
inductive PAt (K : PySem.W.Frag) (H : Hp) : V → Option PI → Prop
  | none : PAt K H .non none
  | some {t b : Addr} {i : PI} (h : SqT K H t [.int i.kind, .int i.seq, .int i.rank, .ref b]) (hb : SqT K H b (i.body.map V.int)) : PAt K H (.ref t) (some i)
theorem PAt.keeps {K : PySem.W.Frag} {H H' : Hp} {v : V} {o : Option PI} (s : Keeps H H') (h : PAt K H v o) : PAt K H' v o := by
  cases h with
  | none => exact .none
  | some h hb => exact .some (s.tup h) (s.tup hb)
theorem pats_keeps {K : PySem.W.Frag} {H H' : Hp} (s : Keeps H H') : ∀ {vs : List V} {os : List (Option PI)}, Paired (PAt K H) vs os → Paired (PAt K H') vs os
  | _, _, .nil => .nil
  | _, _, .cons h t => .cons (h.keeps s) (pats_keeps s t)
def pd : Option PI → PyData
  | none => .none
  | some i => .tuple [.int i.kind, .int i.seq, .int i.rank, .tuple (i.body.map PyData.int)]
theorem PAt.dp {K : PySem.W.Frag} {H : Hp} {v : V} {o : Option PI} (h : PAt K H v o) : Dp K H v (pd o) := by
  cases h with
  | none => exact .non
  | some h hb => exact .tup h (.cons (.int _) (.cons (.int _) (.cons (.int _) (.cons (.tup hb (DpAll.ints _)) .nil))))
theorem pats_dp {K : PySem.W.Frag} {H : Hp} : ∀ {vs : List V} {os : List (Option PI)}, Paired (PAt K H) vs os → DpAll K H vs (os.map pd)
  | _, _, .nil => .nil
  | _, _, .cons h t => .cons h.dp (pats_dp t)
theorem eqt_ints' {as bs : List Int} : PyData.eqv (.tuple (as.map PyData.int)) (.tuple (bs.map PyData.int)) = decide (as = bs) := by
  rw [← eqv_ints, PyData.eqv, PyData.eqv]
theorem eqv_pd : ∀ a b : Option PI, PyData.eqv (pd a) (pd b) = true ↔ a = b
  | none, none => by simp [pd, PyData.eqv]
  | none, some j => by simp [pd, PyData.eqv]
  | some i, none => by simp [pd, PyData.eqv]
  | some ⟨k, s, r, b⟩, some ⟨k', s', r', b'⟩ => by
    have e := eqt_ints' (as := b) (bs := b')
    simp only [pd, PyData.eqv, PyData.eqvAll] at e ⊢
    rw [e]
    simp
theorem eqv_pds : ∀ as bs : List (Option PI), PyData.eqvAll (as.map pd) (bs.map pd) = true ↔ as = bs
  | [], [] => by simp [PyData.eqvAll]
  | [], b :: bs => by simp [PyData.eqvAll]
  | a :: as, [] => by simp [PyData.eqvAll]
  | a :: as, b :: bs => by
    rw [List.map_cons, List.map_cons, PyData.eqvAll, Bool.and_eq_true, eqv_pd, eqv_pds as bs]
    simp
theorem eqv_pl (as bs : List (Option PI)) : PyData.eqv (.list (as.map pd)) (.list (bs.map pd)) = true ↔ as = bs := by
  rw [PyData.eqv]
  exact eqv_pds as bs
theorem fl_pd (o : Option PI) : Fl 2 (pd o) := by
  cases o with
  | none => exact Fl.non _
  | some i => exact (Fl.tup (Fl.cons (Fl.int _ _) (Fl.cons (Fl.int _ _) (Fl.cons (Fl.int _ _) (Fl.cons (Fl.ints i.body) Fl.nil))))).mono (by decide)
theorem fl_pds (os : List (Option PI)) : Fl 3 (.list (os.map pd)) := Fl.lst fun d hd => by
  obtain ⟨o, _, rfl⟩ := List.mem_map.mp hd
  exact fl_pd o
/-! ### what a region tells -/
def GoodTo (f : Nat → Option PI) (s : Int) (n : Nat) : Prop := ∀ r, r < n → ∃ i, f r = some i ∧ i.kind = 5 ∧ i.seq = s ∧ i.rank = (r : Int)
def bodyOf (o : Option PI) : List Int := match o with
  | none => []
  | some i => i.body
def numsTo (f : Nat → Option PI) : Nat → List Int
  | 0 => []
  | n + 1 => numsTo f n ++ bodyOf (f n)
def seqOf (o : Option PI) : Int := match o with
  | none => 0
  | some i => i.seq
theorem numsTo_len {f : Nat → Option PI} {n : Nat} (h : ∀ r, r < n → (bodyOf (f r)).length ≤ 256) : ∀ m, m ≤ n → (numsTo f m).length ≤ m * 256
  | 0, _ => by simp [numsTo]
  | m + 1, hm => by
    have := numsTo_len h m (by omega)
    have := h m (by omega)
    rw [numsTo, List.length_append]
    omega
theorem numsTo_nn {f : Nat → Option PI} {n : Nat} (h : ∀ r, r < n → ∀ x ∈ bodyOf (f r), 0 ≤ x) : ∀ m, m ≤ n → ∀ x ∈ numsTo f m, 0 ≤ x
  | 0, _, x, hx => by simp [numsTo] at hx
  | m + 1, hm, x, hx => by
    rw [numsTo] at hx
    rcases List.mem_append.mp hx with hx | hx
    · exact numsTo_nn h m (by omega) x hx
    · exact h m (by omega) x hx
def Tells (f : Nat → Option PI) (n l : Nat) (sg : Int) : Prop := ∃ s, GoodTo f s n ∧ RdOk l sg (numsTo f n)
def sp_region_start (C : Addr) : Sp := fun args_ H Q _ => ∃ (p : Addr) (L : Lay) (g : Int), args_ = [.ref p, .int g] ∧ LayAt C L H p ∧ 0 ≤ g ∧ g ≤ 1000 ∧ Q (.int (g * L.reg)) H
theorem i_region_start {C : Addr} {args_ : List V} {H : Hp} {Q : V → Hp → Prop} {E : XK} {p : Addr} {L : Lay} {g : Int} (ev : args_ = [.ref p, .int g]) (hL : LayAt C L H p) (g0 : 0 ≤ g) (g1 : g ≤ 1000) (q : Q (.int (g * L.reg)) H) : sp_region_start C args_ H Q E := ⟨p, L, g, ev, hL, g0, g1, q⟩
local macro_rules | `(tactic| walk_at "ca1") => `(tactic| with_reducible (refine' Sg.i_region_start ?ev ?hL ?g0 ?g1 ?_; (case ev => (with_unfolding_all rfl)); (case hL => (with_unfolding_all walk_at "pr")); (case g0 => (with_unfolding_all walk_at "pr")); (case g1 => (with_unfolding_all walk_at "pr"))))

theorem ok_region_start (T : Txt K mg) : FnOk P w K mg base CX0 1 T.a_region_start T.fd_region_start ["layout", "region"] (sp_region_start T.A_Layout) := by
  refine T.F_region_start.ok sc_region_start (fun vs H Q E h => ?_) (fun cdv A outer s H vs Q E hr h => ?_)
  · obtain ⟨p, L, g, rfl, _⟩ := h
    rfl
  · refine ⟨_, (pss_one (ps_ret (pe_op op_mul (pv 1) (pe_fld (pv 0) rfl)))), ?_⟩
    try dsimp only [cxOf, Cx.nox, Cx.wish]
    obtain ⟨p, L, g, rfl, hL, g0, g1, q⟩ := h
    have cl_Layout := T.cl_Layout
    have na_Layout_region_blocks := T.na_Layout_region_blocks
    obtain ⟨dx, fs, hp, F⟩ := hL
    have l1 := F.reg
    walk_at "go"
    exact q
theorem PAt.inv {K : PySem.W.Frag} {H : Hp} {v : V} {i : PI} (h : PAt K H v (Option.some i)) : ∃ t b, v = .ref t ∧ SqT K H t [.int i.kind, .int i.seq, .int i.rank, .ref b] ∧ SqT K H b (i.body.map V.int) := by
  cases h with
  | some h hb => exact ⟨_, _, rfl, h, hb⟩
theorem GoodTo.seq {f : Nat → Option PI} {s : Int} {n : Nat} (h : GoodTo f s n) (n0 : 1 ≤ n) : s = seqOf (f 0) := by
  obtain ⟨i, e, _, e2, _⟩ := h 0 (by omega)
  rw [e]
  exact e2.symm
theorem i_dread {C : Addr} {args_ : List V} {H : Hp} {Q : V → Hp → Prop} {E : XK} {H0 : Hp} {d : Addr} {m : DevM} {a : Int} (ev : args_ = [.ref d, .int a]) (hD : DevIn C H0 H d m) (q : Q (readF m a) H) : sp_read C args_ H Q E := ⟨H0, d, m, a, ev, hD, q⟩
local macro_rules | `(tactic| walk_at "ca1") => `(tactic| with_reducible (refine' Sg.i_dread ?ev ?hD ?_; (case ev => (with_unfolding_all rfl)); (case hD => (with_unfolding_all assumption))))
theorem eqt3 {i j k i' j' k' : Int} : PyData.eqv (.tuple (([i, j, k] : List Int).map PyData.int)) (.tuple (([i', j', k'] : List Int).map PyData.int)) = decide (i = i' ∧ j = j' ∧ k = k') := by
  rw [eqt_ints']
  simp
theorem r_neT3 {K : PySem.W.Frag} {H : Hp} {a b : Addr} {i j k i' j' k' : Int} {Q : V → Hp → Prop} (ha : SqT K H a [.int i, .int j, .int k]) (hb : SqT K H b [.int i', .int j', .int k']) (q : Q (.bl (!decide (i = i' ∧ j = j' ∧ k = k'))) H) : rNeD K (.ref a) (.ref b) H Q := by
  refine r_ned (.tup ha (DpAll.ints [i, j, k])) (.tup hb (DpAll.ints [i', j', k'])) (Fl.ints _).shaped (Fl.ints _).shaped ?_
  rw [eqt3]
  exact q
def sp_checkpoint_in (K : PySem.W.Frag) (C CL : Addr) : Sp := fun args_ H Q _ => ∃ (H0 : Hp) (d : Addr) (m : DevM) (L : Lay) (g : Int) (l n : Nat) (f : Nat → Option PI), args_ = [.ref d, .int g] ∧ DevIn C H0 H d m ∧ LayAt CL L H m.lay ∧ 0 ≤ g ∧ g ≤ 1 ∧ L.last = (l : Nat) ∧ 1 ≤ l ∧ l ≤ 465 ∧ 4 ≤ L.seg ∧ L.seg ≤ 16 ∧ L.reg = (n : Nat) ∧ 1 ≤ n ∧ n ≤ 100 ∧ (∀ r : Nat, r < n → PAt K H (readF m (g * L.reg + r)) (f r)) ∧ (∀ r, r < n → (bodyOf (f r)).length ≤ 256 ∧ ∀ x ∈ bodyOf (f r), 0 ≤ x) ∧ (∀ s, GoodTo f s n → 4 * l + 6 ≤ (numsTo f n).length) ∧ ((∀ s, GoodTo f s n → RdOk l L.seg (numsTo f n) → ∀ H' t a, Same H H' → H' t = some (.tup [.int s, .ref a]) → H' a = some (.lst ((numsTo f n).map V.int)) → Q (.ref t) H')) ∧ (¬ Tells f n l L.seg → ∀ H', Same H H' → Q .non H')
theorem i_checkpoint_in {K : PySem.W.Frag} {C CL : Addr} {args_ : List V} {H : Hp} {Q : V → Hp → Prop} {E : XK} {H0 : Hp} {d : Addr} {m : DevM} {L : Lay} {g : Int} {l n : Nat} {f : Nat → Option PI} (ev : args_ = [.ref d, .int g]) (hD : DevIn C H0 H d m) (hL : LayAt CL L H m.lay) (g0 : 0 ≤ g) (g1 : g ≤ 1) (el : L.last = (l : Nat)) (l0 : 1 ≤ l) (l1 : l ≤ 465) (e0 : 4 ≤ L.seg) (e1 : L.seg ≤ 16) (en : L.reg = (n : Nat)) (n0 : 1 ≤ n) (n1 : n ≤ 100) (hf : (∀ r : Nat, r < n → PAt K H (readF m (g * L.reg + r)) (f r))) (hb : (∀ r, r < n → (bodyOf (f r)).length ≤ 256 ∧ ∀ x ∈ bodyOf (f r), 0 ≤ x)) (hlen : (∀ s, GoodTo f s n → 4 * l + 6 ≤ (numsTo f n).length)) (q1 : (∀ s, GoodTo f s n → RdOk l L.seg (numsTo f n) → ∀ H' t a, Same H H' → H' t = some (.tup [.int s, .ref a]) → H' a = some (.lst ((numsTo f n).map V.int)) → Q (.ref t) H')) (q2 : (¬ Tells f n l L.seg → ∀ H', Same H H' → Q .non H')) : sp_checkpoint_in K C CL args_ H Q E := ⟨H0, d, m, L, g, l, n, f, ev, hD, hL, g0, g1, el, l0, l1, e0, e1, en, n0, n1, hf, hb, hlen, q1, q2⟩
local macro_rules | `(tactic| walk_at "ca1") => `(tactic| with_reducible (refine' Sg.i_checkpoint_in ?ev ?hD ?hL ?g0 ?g1 ?el ?l0 ?l1 ?e0 ?e1 ?en ?n0 ?n1 ?hf ?hb ?hlen ?q1 ?q2; (case ev => (with_unfolding_all rfl)); (case hD => (with_unfolding_all walk_at "pr")); (case hL => (with_unfolding_all walk_at "pr")); (case g0 => (with_unfolding_all walk_at "pr")); (case g1 => (with_unfolding_all walk_at "pr")); (case el => (with_unfolding_all walk_at "pr")); (case l0 => (with_unfolding_all walk_at "pr")); (case l1 => (with_unfolding_all walk_at "pr")); (case e0 => (with_unfolding_all walk_at "pr")); (case e1 => (with_unfolding_all walk_at "pr")); (case en => (with_unfolding_all walk_at "pr")); (case n0 => (with_unfolding_all walk_at "pr")); (case n1 => (with_unfolding_all walk_at "pr")); (case hf => (with_unfolding_all walk_at "pr")); (case hb => (with_unfolding_all walk_at "pr")); (case hlen => (with_unfolding_all walk_at "pr"))))

theorem ok_checkpoint_in (T : Txt K mg) : FnOk P w K mg base CX0 2 T.a_checkpoint_in T.fd_checkpoint_in ["device", "region"] (sp_checkpoint_in K T.A_Device T.A_Layout) := by
  refine T.F_checkpoint_in.ok sc_checkpoint_in (fun vs H Q E h => ?_) (fun cdv A outer s H vs Q E hr h => ?_)
  · obtain ⟨H0, d, m, L, g, l, n, f, rfl, _⟩ := h
    rfl
  · refine ⟨_, (pss_cons (ps_set (i := 2) sc_checkpoint_in.nd rfl (Or.inl rfl) (pe_call (ok_region_start T) (hr.mono (by decide)) rfl T.m_region_start T.F_region_start.kp T.b_region_start .nil pass0 (pa_cons (pe_fld (pv 0) rfl) (pa_cons (pv 1) pa_nil))))
       (pss_cons (ps_set (i := 3) sc_checkpoint_in.nd rfl (Or.inl rfl) (pe_meth (pv 0) T.cl_Device T.me_Device_read (ok_Device_read T) (hr.mono (by decide)) T.b_Device_read .nil pass0 (pa_cons (pv 2) pa_nil)))
       (pss_cons (ps_set (i := 4) sc_checkpoint_in.nd rfl (Or.inl rfl) (pe_lst pa_nil))
       (pss_cons (ps_for PassesOwn.never rfl (pi_range1 rfl T.n_range (pa_cons (pe_fld (pe_fld (pv 0) rfl) rfl) pa_nil)) (pg_name (i := 5) sc_checkpoint_in.nd rfl (Or.inl rfl))
       (pss_cons (ps_set (i := 6) sc_checkpoint_in.nd rfl (Or.inl rfl) (pe_meth (pv 0) T.cl_Device T.me_Device_read (ok_Device_read T) (hr.mono (by decide)) T.b_Device_read .nil pass0 (pa_cons (pe_op op_add (pv 2) (pv 5)) pa_nil)))
       (C8.pss_cut (ps_if (PW.pt (pw_or (pt_cmp (pc_isN (pv 6)) rfl) (pw_or1 (pt_cmpR (op_neD hr.units) (pe_slice sl_tup (pv 6) po_none (po_some pe_int)) (pe_tup (pa_cons (pe_glob rfl T.c_PART T.r_PART) (pa_cons (pe_ix ix_tup (pv 3) pe_int (fun _ _ => rfl)) (pa_cons (pv 5) pa_nil)))) (nomark _)))))
       (pss_one (ps_ret pe_non))
       pss_nil)
       (pss_one (ps_expr (pe_bm PySem.F.plainAttrs_list PySem.F.slot_list_extend PySem.F.type_list_extend mt_extT (pv 4) (pa_cons (pe_ix ix_tup (pv 6) pe_int (fun _ _ => rfl)) pa_nil)))))))
       (pss_cons (ps_if (pt_cmp (pc_isN (pe_call (ok_read_numbers T) (hr.mono (by decide)) rfl T.m_read_numbers T.F_read_numbers.kp T.b_read_numbers .nil pass0 (pa_cons (pe_fld (pv 0) rfl) (pa_cons (pv 4) pa_nil)))) rfl)
       (pss_one (ps_ret pe_non))
       pss_nil)
       (pss_one (ps_ret (pe_tup (pa_cons (pe_ix ix_tup (pv 3) pe_int (fun _ _ => rfl)) (pa_cons (pv 4) pa_nil)))))))))), ?_⟩
    try dsimp only [cxOf, Cx.nox, Cx.wish]
    obtain ⟨H0, d, m, L, g, l, n, f, rfl, hD, hL, g0, g1, el, l0, l1, e0, e1, en, n0, n1, hf, hb, hlen, q1, q2⟩ := h
    have cl_Device := T.cl_Device
    have cl_Layout := T.cl_Layout
    have na_Device_layout := T.na_Device_layout
    have na_Layout_region_blocks := T.na_Layout_region_blocks
    obtain ⟨dx, fs, hp, F⟩ := id hL
    have l1' := F.reg
    obtain ⟨s0, n0', dxd, fsd, su, sh, un, us, hd1, hd2, _⟩ := id hD
    have dl := hd2.lay
    have nR := hd2.nR
    walk_at "go"
    rename_i ln nln H1 s1 g1
    refine r_forR (fun i σ' H' => ∃ v5 v6 : Option V, σ' = [some (.ref d), some (.int g), some (.int (g * L.reg)), some (readF m (g * L.reg)), some (.ref ln), v5, v6] ∧ Same H H' ∧ (True ∧ H' ln = some (.lst ((numsTo f i).map V.int))) ∧ GoodTo f (seqOf (f 0)) i) ?_ ?_ ?_
    · exact ⟨_, _, rfl, s1, ⟨trivial, g1⟩, fun r hr => absurd hr (Nat.not_lt_zero r)⟩
    · clear g1 s1
      rintro i σ' H' hi ⟨v5, v6, rfl, s2, h2, hg⟩
      have hin : i < n := by omega
      have hD2 := hD.mono s2
      have hd12 := s2 _ _ hd1
      have hfi := (hf i hin).keeps (Keeps.of s2)
      have hf0 := (hf 0 (by omega)).keeps (Keeps.of s2)
      rw [show g * L.reg + ((0 : Nat) : Int) = g * L.reg from Int.add_zero _] at hf0
      have nope : (∀ j, f i = some j → j.kind = 5 → j.seq = seqOf (f 0) → j.rank = (i : Int) → False) → ∀ H', Same H H' → Q .non H' := fun h => q2 fun ⟨s, hs, _⟩ => by
        obtain ⟨j, e1, e2, e3, e4⟩ := hs i hin
        exact h j e1 e2 (by rw [← hs.seq n0]; exact e3) e4
      walk_at "go"
      rw [Int.zero_add]
      have hbi := hb i hin
      have hln : (numsTo f i).length ≤ i * 256 := numsTo_len (fun r hr => (hb r hr).1) i (by omega)
      generalize hv : readF m (g * L.reg + (i : Int)) = v at hfi
      generalize hv0 : readF m (g * L.reg) = v0 at hf0
      cases ho : f i with
      | none =>
        rw [ho] at hfi
        cases hfi
        refine r_cut (fun _ _ => False) ?_ (fun _ _ h => h.elim)
        walk_at "go"
        exact nope (fun j e => by rw [ho] at e; cases e) _ s2
      | some j =>
        rw [ho] at hfi hbi
        obtain ⟨t, b, rfl, ht, hbb⟩ := hfi.inv
        obtain ⟨j0, ej0⟩ : ∃ j0, f 0 = some j0 := by
          rcases Nat.eq_zero_or_pos i with e | e
          · rw [← e]; exact ⟨_, ho⟩
          · obtain ⟨j0, e0, _⟩ := hg 0 e
            exact ⟨j0, e0⟩
        rw [ej0] at hf0
        obtain ⟨t0, b0, rfl, ht0, _⟩ := hf0.inv
        have es : seqOf (f 0) = j0.seq := by rw [ej0]; rfl
        refine r_cut (fun σ' H'' => (j.kind = 5 ∧ j.seq = j0.seq ∧ j.rank = (i : Int)) ∧ σ' = [some (.ref d), some (.int g), some (.int (g * L.reg)), some (.ref t0), some (.ref ln), some (.int (i : Int)), some (.ref t)] ∧ Same H' H'') ?_ ?_
        · walk_at "go"
          refine ⟨_, _, rfl, ht, (show ¬ (HT.sIx 4 0 none = 0 ∧ HT.sIx 4 4 (some 3) = 4) from by decide), ?_⟩
          walk_at "al"
          walk_at "go"
          rename_i p2 n2 H3 s3 g3 p4 n4 H4 s4 g4
          refine r_neT3 (.of (s4 _ _ g3)) (.of g4) ?_
          walk_at "go"
          refine r_iteN (fun c => ?_) (fun c => ?_)
          · walk_at "go"
            exact nope (fun j' e k1 k2 k3 => by rw [ho] at e; cases e; exact c ⟨k1, by rw [← es]; exact k2, k3⟩) _ (s2.trans (s3.trans s4))
          · walk_at "go"
            exact ⟨c, rfl, s3.trans s4⟩
        rintro _ H3 ⟨c, rfl, s3⟩
        have h3 := s3 _ _ h2.2
        clear h2
        walk_at "go"
        refine r_extT h3 (Same.tup s3 hbb) (by rw [List.length_map, List.length_map]; have := hbi.1; simp only [bodyOf] at this; omega) ?_
        generalize hH4 : upd _ _ _ = H4
        refine ⟨_, _, rfl, Sg.Same.old (s2.trans s3) nln hH4, ⟨trivial, ?_⟩, fun r hr => ?_⟩
        · rw [numsTo, ho, List.map_append]
          exact Sg.at_new hH4
        · rcases Nat.lt_or_ge r i with h | h
          · exact hg r h
          · have e : r = i := by omega
            subst e
            exact ⟨j, ho, c.1, by rw [es]; exact c.2.1, c.2.2⟩
    · clear g1 s1
      rintro σ' H' ⟨v5, v6, rfl, s2, h2, hg⟩
      rw [show L.reg.toNat = n by omega] at h2 hg
      have hd12 := s2 _ _ hd1
      have hL2 := hL.mono s2
      have hl4 := hlen _ hg
      have hl5 := numsTo_len (fun r hr => (hb r hr).1) n (Nat.le_refl _)
      have hnn := numsTo_nn (fun r hr => (hb r hr).2) n (Nat.le_refl _)
      obtain ⟨j0, ej0, _⟩ := id (hg 0 (by omega))
      have hf0 := (hf 0 (by omega)).keeps (Keeps.of s2)
      rw [show g * L.reg + ((0 : Nat) : Int) = g * L.reg from Int.add_zero _, ej0] at hf0
      generalize hv0 : readF m (g * L.reg) = v0 at hf0
      obtain ⟨t0, b0, rfl, ht0, _⟩ := hf0.inv
      have es : seqOf (f 0) = j0.seq := by rw [ej0]; rfl
      rw [es] at hg
      have h3 := h2.2
      walk_at "go"
      refine ⟨m.lay, ln, L, l, numsTo f n, rfl, hL2, el, l0, l1, e0, e1, .of h3, hl4, by omega, hnn, fun bad H3 s3 => ?_, fun ok H3 t a0 a1 a4 w0 w1 w2 s3 _ _ _ _ _ _ _ => ?_⟩
      · walk_at "go"
        exact q2 (fun ⟨s, hs, h⟩ => bad h) _ (s2.trans s3)
      · have h4 := s3 _ _ h3
        walk_at "go"
        rename_i p5 n5 H5 s5 g5
        exact q1 _ hg ok _ _ _ (s2.trans (s3.trans s5)) g5 (s5 _ _ h4)
def FOk (l : Nat) (f : Int × List Int) : Prop := f.2.length = l ∧ (f.1 = 1 ∨ (f.1 = 0 ∧ f.2 = List.replicate l 0)) ∧ ∀ x ∈ f.1 :: f.2, 0 ≤ x
theorem flatF_nn {l : Nat} : ∀ {fl : List (Int × List Int)}, (∀ f ∈ fl, FOk l f) → ∀ x ∈ flatF fl, 0 ≤ x
  | [], _, x, hx => by simp [flatF] at hx
  | f :: r, h, x, hx => by
    have e : flatF (f :: r) = (f.1 :: f.2) ++ flatF r := by simp [flatF]
    rw [e] at hx
    rcases List.mem_append.mp hx with hx | hx
    · exact (h f (List.mem_cons_self ..)).2.2 x hx
    · exact flatF_nn (fun f hf => h f (List.mem_cons_of_mem _ hf)) x hx
def sp_law_numbers (K : PySem.W.Frag) (C : Addr) : Sp := fun args_ H Q _ => ∃ (p a : Addr) (L : Lay) (l : Nat) (sc : List Int) (k : Int), args_ = [.ref p, .ref a, .int k] ∧ LayAt C L H p ∧ LayC L ∧ L.last = (l : Nat) ∧ SqL K H a (sc.map V.int) ∧ sc.length ≤ 63 ∧ 0 ≤ k ∧ k ≤ 900 ∧ ∀ H' t N, Same H H' → H t = none → H' t = some (.lst (N.map V.int)) → (N.length : Int) = L.reg * L.fan → (∀ x ∈ N, 0 ≤ x) → RdOk l L.seg N → Q (.ref t) H'
theorem i_law_numbers {K : PySem.W.Frag} {C : Addr} {args_ : List V} {H : Hp} {Q : V → Hp → Prop} {E : XK} {p a : Addr} {L : Lay} {l : Nat} {sc : List Int} {k : Int} (ev : args_ = [.ref p, .ref a, .int k]) (hL : LayAt C L H p) (hC : LayC L) (el : L.last = (l : Nat)) (hS : SqL K H a (sc.map V.int)) (h63 : sc.length ≤ 63) (k0 : 0 ≤ k) (k1 : k ≤ 900) (q : ∀ H' t N, Same H H' → H t = none → H' t = some (.lst (N.map V.int)) → (N.length : Int) = L.reg * L.fan → (∀ x ∈ N, 0 ≤ x) → RdOk l L.seg N → Q (.ref t) H') : sp_law_numbers K C args_ H Q E := ⟨p, a, L, l, sc, k, ev, hL, hC, el, hS, h63, k0, k1, q⟩
local macro_rules | `(tactic| walk_at "ca1") => `(tactic| with_reducible (refine' Sg.i_law_numbers ?ev ?hL ?hC ?el ?hS ?h63 ?k0 ?k1 ?_; (case ev => (with_unfolding_all rfl)); (case hL => (with_unfolding_all walk_at "pr")); (case hC => (with_unfolding_all walk_at "pr")); (case el => (with_unfolding_all walk_at "pr")); (case hS => (with_unfolding_all walk_at "pr")); (case h63 => (with_unfolding_all walk_at "pr")); (case k0 => (with_unfolding_all walk_at "pr")); (case k1 => (with_unfolding_all walk_at "pr")); intros))

theorem ok_law_numbers (T : Txt K mg) : FnOk P w K mg base CX0 3 T.a_law_numbers T.fd_law_numbers ["layout", "script", "at"] (sp_law_numbers K T.A_Layout) := by
  refine T.F_law_numbers.ok sc_law_numbers (fun vs H Q E h => ?_) (fun cdv A outer s H vs Q E hr h => ?_)
  · obtain ⟨p, a, L, l, sc, k, rfl, _⟩ := h
    rfl
  · refine ⟨_, (pss_cons (ps_asg (pe_call (ok_law_digits T) (hr.mono (by decide)) rfl T.m_law_digits T.F_law_digits.kp T.b_law_digits .nil pass0 (pa_cons (pe_call (ok_law_row T) (hr.mono (by decide)) rfl T.m_law_row T.F_law_row.kp T.b_law_row .nil pass0 (pa_cons (pv 1) (pa_cons (pv 2) pa_nil))) (pa_cons (pe_lst (pa_cons pe_int (pa_cons pe_int (pa_cons pe_int (pa_cons (pe_op op_add (pe_fld (pv 0) rfl) pe_int) pa_nil))))) pa_nil))) (pg_unl (by rfl) (pgs_cons (pg_name (i := 3) sc_law_numbers.nd rfl (Or.inl rfl)) (pgs_cons (pg_name (i := 4) sc_law_numbers.nd rfl (Or.inl rfl)) (pgs_cons (pg_name (i := 5) sc_law_numbers.nd rfl (Or.inl rfl)) (pgs_cons (pg_name (i := 6) sc_law_numbers.nd rfl (Or.inl rfl)) pgs_nil))))))
       (pss_cons (ps_set (i := 7) sc_law_numbers.nd rfl (Or.inl rfl) (pe_slice sl_list (pe_call (ok_law_table T) (hr.mono (by decide)) rfl T.m_law_table T.F_law_table.kp T.b_law_table .nil pass0 (pa_cons (pv 0) (pa_cons (pe_call (ok_law_row T) (hr.mono (by decide)) rfl T.m_law_row T.F_law_row.kp T.b_law_row .nil pass0 (pa_cons (pv 1) (pa_cons (pe_op op_add (pv 2) pe_int) pa_nil))) (pa_cons pe_int pa_nil)))) (po_some pe_int) po_none))
       (pss_cons (ps_for PassesOwn.never rfl (pi_range1 rfl T.n_range (pa_cons pe_int pa_nil)) (pg_name (i := 8) sc_law_numbers.nd rfl (Or.inl rfl))
       (pss_one (ps_if (pt_cmpR op_eq (pe_op op_mod (pe_op op_fdiv (pv 3) (pe_ix ix_list (pe_lst (pa_cons pe_int (pa_cons pe_int (pa_cons pe_int pa_nil)))) (pv 8) (fun _ _ => rfl))) pe_int) pe_int (nomark _))
       (pss_one (ps_set (i := 7) sc_law_numbers.nd rfl (Or.inl rfl) (pe_op op_cat (pe_op op_cat (pv 7) (pe_lst (pa_cons pe_int pa_nil))) (pe_slice sl_list (pe_call (ok_law_table T) (hr.mono (by decide)) rfl T.m_law_table T.F_law_table.kp T.b_law_table .nil pass0 (pa_cons (pv 0) (pa_cons (pe_call (ok_law_row T) (hr.mono (by decide)) rfl T.m_law_row T.F_law_row.kp T.b_law_row .nil pass0 (pa_cons (pv 1) (pa_cons (pe_op op_add (pe_op op_add (pv 2) pe_int) (pv 8)) pa_nil))) (pa_cons pe_int pa_nil)))) (po_some pe_int) po_none))))
       (pss_one (ps_set (i := 7) sc_law_numbers.nd rfl (Or.inl rfl) (pe_op op_cat (pv 7) (pe_op op_rep (pe_lst (pa_cons pe_int pa_nil)) (pe_op op_add (pe_fld (pv 0) rfl) pe_int))))))))
       (pss_cons (ps_set (i := 7) sc_law_numbers.nd rfl (Or.inl rfl) (pe_op op_cat (pe_op op_cat (pv 7) (pe_lst (pa_cons (pv 4) (pa_cons (pv 5) (pa_cons (pv 6) pa_nil))))) (pe_lc (own := [("k", 8)]) (g := gName 8) (tt := tYes) rfl sc_law_numbers.nd (pi_range1 rfl T.n_range (pa_cons (pv 6) pa_nil)) (blkOk_by (own := [("k", 8)]) (N := n_law_numbers) (sc := defScope s_law_numbers) (by decide +kernel)) (fun _ _ _ _ _ => pg_name (i := 8) sc_law_numbers.nd rfl (Or.inl rfl)) (fun _ _ _ _ _ => pts_nil) (fun _ _ _ _ _ => (pv 8)))))
       (pss_one (ps_ret (pe_op op_cat (pv 7) (pe_op op_rep (pe_lst (pa_cons pe_int pa_nil)) (pe_op op_sub (pe_op op_mul (pe_fld (pv 0) rfl) (pe_fld (pv 0) rfl)) (pe_callB (c_len) (by rfl) T.n_len (by decide +kernel) (pa_cons (pv 7) pa_nil))))))))))), ?_⟩
    try dsimp only [cxOf, Cx.nox, Cx.wish]
    obtain ⟨p, a, L, l, sc, k, rfl, hL, hC, el, hS, h63, k0, k1, q⟩ := h
    have cl_Layout := T.cl_Layout
    have na_Layout_fan := T.na_Layout_fan
    have na_Layout_last_id := T.na_Layout_last_id
    have na_Layout_region_blocks := T.na_Layout_region_blocks
    have na_Layout_segments := T.na_Layout_segments
    obtain ⟨dx, fs, hp, F⟩ := id hL
    have lk1 := F.last
    have lk2 := F.seg
    have lk3 := F.reg
    have lk4 := F.fan
    have c1 := hC.s0
    have c2 := hC.s1
    have c3 := hC.l0
    have c4 := hC.l1
    have c5 := hC.rf0
    have c6 := hC.rf1
    have c7 := hC.f0
    have c8 := hC.f1
    have c9 := hC.r0
    have c10 := hC.r1
    walk_at "go"
    rename_i z1 z10 ps ns H1 s1 g1 tk ta tb hd ha hb pl pa pb ct ca cb H2 pd s2 n2 g2 z2 z20 H3 t ts s3 nt ht et bt zt lm0 nlm0 H4 s4 g4
    obtain ⟨P, rfl⟩ : ∃ P, ts = 0 :: P := by
      cases ts with
      | nil => simp at zt
      | cons y P =>
        simp at zt
        subst zt
        exact ⟨P, rfl⟩
    have eP : P.length = l := by
      rw [List.length_cons] at et
      omega
    have nP : ∀ x ∈ P, 0 ≤ x := fun x hx => (bt x (List.mem_cons_of_mem _ hx)).1
    have s04 : Same H H4 := s1.trans (s2.trans (s3.trans s4))
    rw [cut_from (by decide)] at g4
    have g4 : H4 lm0 = some (.lst (P.map V.int)) := g4
    clear g1 g2 n2 ht nt et bt zt nlm0 s1 s2 s3 s4 ns z10 z20
    refine r_forR (fun i σ' H' => ∃ (v8 : Option V) (lm : Addr) (fl : List (Int × List Int)) (nums : List Int), σ' = [some (.ref p), some (.ref a), some (.int k), some (.int tk), some (.int hd), some (.int pl), some (.int ct), some (.ref lm), v8] ∧ Same H H' ∧ H' lm = some (.lst (nums.map V.int)) ∧ nums = P ++ flatF fl ∧ nums.length = l + i * (l + 1) ∧ fl.length = i ∧ ∀ f ∈ fl, FOk l f) ?_ ?_ ?_
    · refine ⟨none, lm0, [], P, rfl, s04, g4, ?_, ?_, rfl, fun f hf => nomatch hf⟩
      · rw [show flatF [] = [] from rfl, List.append_nil]
      · omega
    · clear g4 s04
      rintro i σ' H' hi ⟨v8, lm, fl, nums, rfl, sH, g, en, ln, lf, hf⟩
      have hi' : i < 3 := hi
      have hmul := mul_lt3 (l := l) hi'
      obtain ⟨m, em, m0, m1⟩ : ∃ m : Int, atI [V.int 1, .int 2, .int 4] (0 + (i : Int)) = some (.int m) ∧ 0 < m ∧ m ≤ 4 := by
        rcases (by omega : i = 0 ∨ i = 1 ∨ i = 2) with rfl | rfl | rfl
        · exact ⟨_, rfl, by decide, by decide⟩
        · exact ⟨_, rfl, by decide, by decide⟩
        · exact ⟨_, rfl, by decide, by decide⟩
      walk_at "go"
      refine r_ixl (by walk_at "hp") em ?_
      walk_at "go"
      refine r_ite (fun c => ?_) (fun c => ?_)
      · walk_at "go"
        rename_i pq nq Hq sq gq y hy y0 y1 pr nr Hr sr gr pu nu Hu su gu z3 z30 Hv tv tv2 sv nv gv ev bv zv pw nw Hw sw gw
        obtain ⟨A', rfl⟩ : ∃ A', tv2 = 0 :: A' := by
          cases tv2 with
          | nil => simp at zv
          | cons y A' =>
            simp at zv
            subst zv
            exact ⟨A', rfl⟩
        have eA : A'.length = l := by
          rw [List.length_cons] at ev
          omega
        have nA : ∀ x ∈ A', 0 ≤ x := fun x hx => (bv x (List.mem_cons_of_mem _ hx)).1
        rw [cut_from (by decide)] at gw
        have gw : Hw pw = some (.lst (A'.map V.int)) := gw
        clear bv zv gv
        walk_at "go"
        rename_i px nx Hx sx gx
        refine ⟨_, _, fl ++ [(1, A')], nums ++ 1 :: A', rfl, by walk_at "sm", ?_, ?_, ?_, ?_, ?_⟩
        · rw [gx]; simp
        · rw [flatF_snoc, en, List.append_assoc]
        · rw [List.length_append, List.length_cons, ln, eA, Nat.succ_mul]; omega
        · rw [List.length_append, lf]; rfl
        · intro f hf'
          rcases List.mem_append.mp hf' with h | h
          · exact hf f h
          · rw [List.mem_singleton.mp h]
            refine ⟨eA, .inl rfl, fun x hx => ?_⟩
            rcases List.mem_cons.mp hx with rfl | hx
            · exact (by decide : (0 : Int) ≤ 1)
            · exact nA x hx
      · walk_at "go"
        rename_i pq nq Hq sq gq y hy y0 y1 pr nr Hr sr gr pu nu Hu su gu px nx Hx sx gx
        refine ⟨_, _, fl ++ [(0, List.replicate l 0)], nums ++ 0 :: List.replicate l 0, rfl, by walk_at "sm", ?_, ?_, ?_, ?_, ?_⟩
        · rw [gx, show (L.last + 1).toNat = l + 1 by omega]
          simp [List.replicate_succ]
        · rw [flatF_snoc, en, List.append_assoc]
        · rw [List.length_append, List.length_cons, ln, List.length_replicate, Nat.succ_mul]; omega
        · rw [List.length_append, lf]; rfl
        · intro f hf'
          rcases List.mem_append.mp hf' with h | h
          · exact hf f h
          · rw [List.mem_singleton.mp h]
            refine ⟨List.length_replicate, .inr ⟨rfl, rfl⟩, fun x hx => ?_⟩
            rcases List.mem_cons.mp hx with rfl | hx
            · exact Int.le_refl 0
            · rw [List.eq_of_mem_replicate hx]; exact Int.le_refl 0
    · clear g4 s04
      rintro σ' H' ⟨v8, lm, fl, nums, rfl, sH, g, en, ln, lf, hf⟩
      have lf3 : fl.length = 3 := lf
      have ln3 : nums.length = l + 3 * (l + 1) := ln
      clear lf ln
      have hnn : ∀ x ∈ nums, 0 ≤ x := by
        intro x hx
        rw [en] at hx
        rcases List.mem_append.mp hx with h | h
        · exact nP x h
        · exact flatF_nn hf x h
      walk_at "go"
      rename_i p1 n1 H1 s1 g1 p2 n2 H2 s2 g2
      refine r_lcI (fun _ z => 0 ≤ z) (by omega) rfl ?_ ?_
      · intro j H'' hj s' R hR
        walk_at "go"
        exact hR _ (by omega)
      intro HA lA qs sA nA hA lenA hz
      have nq : ∀ x ∈ qs, 0 ≤ x := fun x hx => by
        obtain ⟨j, hj⟩ := List.mem_iff_getElem?.mp hx
        exact hz j x hj
      clear hz
      have e2 : (nums ++ [hd, pl, ct]).length = 4 * l + 6 := by rw [List.length_append, ln3]; simp; omega
      have g2' : H2 p2 = some (.lst ((nums ++ [hd, pl, ct]).map V.int)) := by rw [g2, List.map_append]; rfl
      have nn2 : ∀ x ∈ nums ++ [hd, pl, ct], 0 ≤ x := by
        intro x hx
        rcases List.mem_append.mp hx with hx | hx
        · exact hnn x hx
        · simp only [List.mem_cons, List.not_mem_nil, or_false] at hx
          rcases hx with rfl | rfl | rfl <;> assumption
      have okN : ∀ mm, RdOk l L.seg (nums ++ [hd, pl, ct] ++ qs ++ List.replicate mm 0) := fun mm => by
        rw [en]
        match fl, lf3, hf with
        | [y0, y1, y2], _, hf =>
          have h0 := hf y0 (by simp)
          have h1 := hf y1 (by simp)
          have h2 := hf y2 (by simp)
          exact (nsOk (l := l) (m := mm) (s := L.seg) (P := P) (qs := qs) (f0 := y0) (f1 := y1) (f2 := y2) (hd := hd) (pl := pl) (ct := ct) eP h0.1 h1.1 h2.1 (by omega) (by omega) h0.2.1 h1.2.1 h2.2.1).ok
      clear g2
      generalize nums ++ [hd, pl, ct] = ns2 at e2 g2' nn2 okN
      walk_at "go"
      rename_i p3 n3 H3 s3 g3 p4 n4 H4 s4 g4
      have e3 : (List.map V.int ns2 ++ List.map V.int qs).length = 4 * l + 6 + ct.toNat := by rw [List.length_append, List.length_map, List.length_map, e2, lenA]
      rw [e3]
      obtain ⟨nl, hnl⟩ : ∃ nl : Int, nl = ((4 * l + 6 + ct.toNat : Nat) : Int) := ⟨_, rfl⟩
      obtain ⟨rf, hrf⟩ : ∃ rf : Int, rf = L.reg * L.fan := ⟨_, rfl⟩
      rw [← hnl, ← hrf]
      rw [← hrf] at c5 c6 q
      have nl0 : 0 ≤ nl := by omega
      have nl1 : nl ≤ 4000 := by omega
      have g3' : H3 p3 = some (.lst ((ns2 ++ qs).map V.int)) := by rw [g3, List.map_append]
      have e5 : (ns2 ++ qs).length = 4 * l + 6 + ct.toNat := by rw [List.length_append, e2, lenA]
      have nn3 : ∀ x ∈ ns2 ++ qs, 0 ≤ x := fun x hx => (List.mem_append.mp hx).elim (nn2 x) (nq x)
      clear g3 e3
      generalize ns2 ++ qs = ns3 at g3' e5 nn3 okN
      walk_at "go"
      rename_i p5 n5 H5 s5 g5 p6 n6 H6 s6 g6
      have ok := okN (rf - nl).toNat
      refine q _ p6 (ns3 ++ List.replicate (rf - nl).toNat 0) (by walk_at "sm") ?_ ?_ ?_ ?_ ok
      · exact (sH.trans (s1.trans (s2.trans (sA.trans (s3.trans (s4.trans s5)))))).free n6
      · rw [g6, List.map_append, List.map_replicate]
      · rw [List.length_append, List.length_replicate, e5]
        omega
      · intro x hx
        rcases List.mem_append.mp hx with h | h
        · exact nn3 x h
        · rw [List.eq_of_mem_replicate h]
          exact Int.le_refl _
theorem paired_at' {α β : Type} {F : α → β → Prop} : ∀ {xs : List α} {ys : List β} {i : Nat} {y : β}, Paired F xs ys → ys[i]? = some y → ∃ x, xs[i]? = some x ∧ F x y
  | _, _, _, _, .nil, e => by simp at e
  | _, _, 0, _, .cons r t, e => by simp at e; subst e; exact ⟨_, rfl, r⟩
  | _, _, i + 1, _, .cons r t, e => by
    obtain ⟨y, e1, h1⟩ := paired_at' (i := i) t (by simpa using e)
    exact ⟨y, by simpa using e1, h1⟩
theorem paired_set {α β : Type} {F : α → β → Prop} : ∀ {xs : List α} {ys : List β} {x : α} {y : β}, F x y → ∀ i : Nat, Paired F xs ys → Paired F (xs.set i x) (ys.set i y)
  | _, _, _, _, _, _, .nil => .nil
  | _, _, _, _, h, 0, .cons r t => .cons h t
  | _, _, _, _, h, i + 1, .cons r t => .cons r (paired_set h i t)

theorem r_cutI {t u : TS} {D : Ends} {σ : L2.St} {H : Hp} (h : t { D with nx := u D } σ H) : C8.tCut t u D σ H := ⟨u D, h, fun _ _ h => h⟩
local macro_rules | `(tactic| walk_at "gc") => `(tactic| repeat (first | walk_at "go1" | with_reducible refine' Sg.r_cutI ?_))
def chunk (c : Nat) (ns : List Int) (k : Nat) : List Int := (ns.drop (k * c)).take c
def partsI (c : Nat) (ns : List Int) (sq : Int) (n : Nat) : List (Option PI) := (List.range n).map fun k => some ⟨5, sq, (k : Nat), chunk c ns k⟩
theorem partsI_succ {c : Nat} {ns : List Int} {sq : Int} {n : Nat} : partsI c ns sq (n + 1) = partsI c ns sq n ++ [some ⟨5, sq, (n : Nat), chunk c ns n⟩] := by
  unfold partsI
  rw [List.range_succ, List.map_append]
  rfl
theorem partsI_len {c : Nat} {ns : List Int} {sq : Int} {n : Nat} : (partsI c ns sq n).length = n := by simp [partsI]
theorem partsI_at {c : Nat} {ns : List Int} {sq : Int} {n k : Nat} (h : k < n) : (partsI c ns sq n)[k]? = some (some ⟨5, sq, (k : Nat), chunk c ns k⟩) := by
  unfold partsI
  rw [List.getElem?_map, List.getElem?_range h]
  rfl
def sp_law_parts (K : PySem.W.Frag) (C : Addr) : Sp := fun args_ H Q _ => ∃ (p a : Addr) (L : Lay) (c n : Nat) (ns : List Int) (sq : Int), args_ = [.ref p, .ref a, .int sq] ∧ LayAt C L H p ∧ SqL K H a (ns.map V.int) ∧ L.fan = (c : Nat) ∧ L.reg = (n : Nat) ∧ c ≤ 128 ∧ n ≤ 100 ∧ ∀ H' t vs, Same H H' → H t = none → H' t = some (.lst vs) → Paired (PAt K H') vs (partsI c ns sq n) → Q (.ref t) H'
theorem i_law_parts {K : PySem.W.Frag} {C : Addr} {args_ : List V} {H : Hp} {Q : V → Hp → Prop} {E : XK} {p a : Addr} {L : Lay} {c n : Nat} {ns : List Int} {sq : Int} (ev : args_ = [.ref p, .ref a, .int sq]) (hL : LayAt C L H p) (hS : SqL K H a (ns.map V.int)) (ec : L.fan = (c : Nat)) (en : L.reg = (n : Nat)) (c1 : c ≤ 128) (n1 : n ≤ 100) (q : ∀ H' t vs, Same H H' → H t = none → H' t = some (.lst vs) → Paired (PAt K H') vs (partsI c ns sq n) → Q (.ref t) H') : sp_law_parts K C args_ H Q E := ⟨p, a, L, c, n, ns, sq, ev, hL, hS, ec, en, c1, n1, q⟩
local macro_rules | `(tactic| walk_at "ca1") => `(tactic| with_reducible (refine' Sg.i_law_parts ?ev ?hL ?hS ?ec ?en ?c1 ?n1 ?_; (case ev => (with_unfolding_all rfl)); (case hL => (with_unfolding_all walk_at "pr")); (case hS => (with_unfolding_all walk_at "pr")); (case ec => (with_unfolding_all walk_at "pr")); (case en => (with_unfolding_all walk_at "pr")); (case c1 => (with_unfolding_all walk_at "pr")); (case n1 => (with_unfolding_all walk_at "pr")); intros))

theorem ok_law_parts (T : Txt K mg) : FnOk P w K mg base CX0 1 T.a_law_parts T.fd_law_parts ["layout", "numbers", "sequence"] (sp_law_parts K T.A_Layout) := by
  refine T.F_law_parts.ok sc_law_parts (fun vs H Q E h => ?_) (fun cdv A outer s H vs Q E hr h => ?_)
  · obtain ⟨p, a, L, c, n, ns, sq, rfl, _⟩ := h
    rfl
  · refine ⟨_, (pss_cons (ps_set (i := 3) sc_law_parts.nd rfl (Or.inl rfl) (pe_lst pa_nil))
       (pss_cons (ps_for PassesOwn.never rfl (pi_range1 rfl T.n_range (pa_cons (pe_fld (pv 0) rfl) pa_nil)) (pg_name (i := 4) sc_law_parts.nd rfl (Or.inl rfl))
       (pss_one (ps_expr (pe_bm PySem.F.plainAttrs_list PySem.F.slot_list_append PySem.F.type_list_append mt_append (pv 3) (pa_cons (pe_tup (pa_cons pe_int (pa_cons (pv 2) (pa_cons (pv 4) (pa_cons (pe_callTy c_tuple (by rfl) T.n_tuple (by decide +kernel) (pa_cons (pe_slice sl_list (pv 1) (po_some (pe_op op_mul (pv 4) (pe_fld (pv 0) rfl))) (po_some (pe_op op_mul (pe_op op_add (pv 4) pe_int) (pe_fld (pv 0) rfl)))) pa_nil)) pa_nil))))) pa_nil)))))
       (pss_one (ps_ret (pv 3))))), ?_⟩
    try dsimp only [cxOf, Cx.nox, Cx.wish]
    obtain ⟨p, a, L, c, n, ns, sq, rfl, hL, hS, ec, en, c1, n1, q⟩ := h
    have cl_Layout := T.cl_Layout
    have na_Layout_fan := T.na_Layout_fan
    have na_Layout_region_blocks := T.na_Layout_region_blocks
    obtain ⟨dx, fs, hp, F⟩ := id hL
    have lk1 := F.reg
    have lk2 := F.fan
    walk_at "go"
    rename_i lp nlp H1 s1 g1
    refine r_forR (fun i σ' H' => ∃ (v4 : Option V) (vs : List V), σ' = [some (.ref p), some (.ref a), some (.int sq), some (.ref lp), v4] ∧ Same H H' ∧ H' lp = some (.lst vs) ∧ Paired (PAt K H') vs (partsI c ns sq i)) ?_ ?_ ?_
    · exact ⟨_, _, rfl, s1, g1, .nil⟩
    · clear g1 s1
      rintro i σ' H' hi ⟨v4, vs, rfl, s2, g2, hP⟩
      have hl : vs.length = i := by rw [Paired.length hP, partsI_len]
      walk_at "go"
      rename_i p1 n1' H3 s3 g3 p2 n2 H4 s4 g4 p3 n3 H5 s5 g5 H6 e6 g6
      rw [Int.zero_add] at g4 g5
      have hm : (i : Int) * L.fan = ((i * c : Nat) : Int) := by rw [ec]; simp
      have hm2 : ((i : Int) + 1) * L.fan = ((i * c + c : Nat) : Int) := by rw [Int.add_mul, hm, ec]; simp
      rw [hm, hm2, cut_both (by omega) (by omega), drop_map, take_map, Int.toNat_natCast, Int.toNat_natCast, Nat.add_sub_cancel_left] at g4
      have s5' : Same H' H5 := s3.trans (s4.trans s5)
      have k6 : Keeps H5 H6 := Keeps.upd (s5' _ _ g2) lstNF e6
      refine ⟨_, _, rfl, Sg.Same.old (s2.trans s5') nlp e6, g6, ?_⟩
      rw [partsI_succ]
      refine paired_snoc (pats_keeps ((Keeps.of s5').trans k6) hP) (PAt.some (i := ⟨5, sq, (i : Nat), chunk c ns i⟩) (b := p2) (k6.tup (.of g5)) (k6.tup (.of (s5 _ _ g4))))
    · rintro σ' H' ⟨v4, vs, rfl, s2, g2, hP⟩
      rw [show L.reg.toNat = n by omega] at hP
      walk_at "go"
      exact q _ _ _ s2 nlp g2 hP
def BadO (sq : Int) (at' : Nat) (o : Option PI) : Prop := (∀ j, o = some j → j.kind ≠ 5 ∨ j.seq ≠ sq ∨ j.rank ≠ (at' : Int)) ∧ (bodyOf o).length ≤ 256 ∧ ∀ x ∈ bodyOf o, 0 ≤ x
def SpoilP (c : Nat) (ns : List Int) (sq : Int) (n l : Nat) (ft cg : Int) (at' : Nat) (os : List (Option PI)) : Prop := os = partsI c ns sq n ∨ (∃ o, os = (partsI c ns sq n).set at' o ∧ BadO sq at' o) ∨ os = partsI c (ns.set l (2 + cg)) sq n
theorem chunk_len {c : Nat} {ns : List Int} {k : Nat} : (chunk c ns k).length ≤ c := by
  unfold chunk
  rw [List.length_take]
  omega
theorem chunk_nn {c : Nat} {ns : List Int} {k : Nat} (h : ∀ x ∈ ns, 0 ≤ x) : ∀ x ∈ chunk c ns k, 0 ≤ x := fun x hx => h x (List.mem_of_mem_drop (List.mem_of_mem_take hx))
def sp_law_spoilt (K : PySem.W.Frag) (C : Addr) : Sp := fun args_ H Q _ => ∃ (p a b : Addr) (L : Lay) (c n l at' : Nat) (ns : List Int) (sq ft cg : Int) (vs : List V), args_ = [.ref p, .ref a, .ref b, .int ft, .int (at' : Nat), .int cg] ∧ LayAt C L H p ∧ H a = some (.lst vs) ∧ Paired (PAt K H) vs (partsI c ns sq n) ∧ SqL K H b (ns.map V.int) ∧ L.fan = (c : Nat) ∧ L.reg = (n : Nat) ∧ L.last = (l : Nat) ∧ 2 ≤ L.size ∧ L.size ≤ 256 ∧ c ≤ 128 ∧ n ≤ 100 ∧ l < ns.length ∧ at' < n ∧ 0 ≤ ft ∧ 0 ≤ cg ∧ (∀ x ∈ ns, 0 ≤ x) ∧ ∀ H' t ws os, Same H H' → H t = none → H' t = some (.lst ws) → Paired (PAt K H') ws os → SpoilP c ns sq n l ft cg at' os → Q (.ref t) H'
theorem i_law_spoilt {K : PySem.W.Frag} {C : Addr} {args_ : List V} {H : Hp} {Q : V → Hp → Prop} {E : XK} {p a b : Addr} {L : Lay} {c n l at' : Nat} {ns : List Int} {sq ft cg : Int} {vs : List V} (ev : args_ = [.ref p, .ref a, .ref b, .int ft, .int (at' : Nat), .int cg]) (hL : LayAt C L H p) (hv : H a = some (.lst vs)) (hP : Paired (PAt K H) vs (partsI c ns sq n)) (hS : SqL K H b (ns.map V.int)) (ec : L.fan = (c : Nat)) (en : L.reg = (n : Nat)) (el : L.last = (l : Nat)) (z0 : 2 ≤ L.size) (z1 : L.size ≤ 256) (c1 : c ≤ 128) (n1 : n ≤ 100) (hl : l < ns.length) (hat : at' < n) (f0 : 0 ≤ ft) (c0 : 0 ≤ cg) (nn : (∀ x ∈ ns, 0 ≤ x)) (q : ∀ H' t ws os, Same H H' → H t = none → H' t = some (.lst ws) → Paired (PAt K H') ws os → SpoilP c ns sq n l ft cg at' os → Q (.ref t) H') : sp_law_spoilt K C args_ H Q E := ⟨p, a, b, L, c, n, l, at', ns, sq, ft, cg, vs, ev, hL, hv, hP, hS, ec, en, el, z0, z1, c1, n1, hl, hat, f0, c0, nn, q⟩
local macro_rules | `(tactic| walk_at "ca1") => `(tactic| with_reducible (refine' Sg.i_law_spoilt ?ev ?hL ?hv ?hP ?hS ?ec ?en ?el ?z0 ?z1 ?c1 ?n1 ?hl ?hat ?f0 ?c0 ?nn ?_; (case ev => (with_unfolding_all rfl)); (case hL => (with_unfolding_all walk_at "pr")); (case hv => (with_unfolding_all walk_at "pr")); (case hP => (with_unfolding_all walk_at "pr")); (case hS => (with_unfolding_all walk_at "pr")); (case ec => (with_unfolding_all walk_at "pr")); (case en => (with_unfolding_all walk_at "pr")); (case el => (with_unfolding_all walk_at "pr")); (case z0 => (with_unfolding_all walk_at "pr")); (case z1 => (with_unfolding_all walk_at "pr")); (case c1 => (with_unfolding_all walk_at "pr")); (case n1 => (with_unfolding_all walk_at "pr")); (case hl => (with_unfolding_all walk_at "pr")); (case hat => (with_unfolding_all walk_at "pr")); (case f0 => (with_unfolding_all walk_at "pr")); (case c0 => (with_unfolding_all walk_at "pr")); (case nn => (with_unfolding_all walk_at "pr")); intros))

theorem ok_law_spoilt (T : Txt K mg) : FnOk P w K mg base CX0 2 T.a_law_spoilt T.fd_law_spoilt ["layout", "parts", "numbers", "fault", "at", "change"] (sp_law_spoilt K T.A_Layout) := by
  refine T.F_law_spoilt.ok sc_law_spoilt (fun vs H Q E h => ?_) (fun cdv A outer s H vs Q E hr h => ?_)
  · obtain ⟨p, a, b, L, c, n, l, at', ns, sq, ft, cg, vs, rfl, _⟩ := h
    rfl
  · refine ⟨_, (pss_cons (ps_set (i := 6) sc_law_spoilt.nd rfl (Or.inl rfl) (pe_ix ix_list (pv 1) (pv 4) (fun _ _ => rfl)))
       (pss_cons (ps_set (i := 7) sc_law_spoilt.nd rfl (Or.inl rfl) (pe_callTy c_list (by rfl) T.n_list (by decide +kernel) (pa_cons (pv 1) pa_nil)))
       (C8.pss_cut (ps_if (pt_cmpR op_eq (pv 3) pe_int (nomark _))
       (pss_one (ps_asg pe_non (pg_sub (pv 7) (pv 4) set_list)))
       pss_nil)
       (C8.pss_cut (ps_if (pt_cmpR op_eq (pv 3) pe_int (nomark _))
       (pss_one (ps_asg (pe_tup (pa_cons pe_int (pa_cons (pe_ix ix_tup (pv 6) pe_int (fun _ _ => rfl)) (pa_cons (pe_ix ix_tup (pv 6) pe_int (fun _ _ => rfl)) (pa_cons (pe_op op_repT (pe_tup (pa_cons (pe_op op_mod (pv 5) pe_int) pa_nil)) (pe_fld (pv 0) rfl)) pa_nil))))) (pg_sub (pv 7) (pv 4) set_list)))
       pss_nil)
       (C8.pss_cut (ps_if (pt_cmpR op_eq (pv 3) pe_int (nomark _))
       (pss_one (ps_asg (pe_tup (pa_cons pe_int (pa_cons (pe_op op_add (pe_op op_add (pe_ix ix_tup (pv 6) pe_int (fun _ _ => rfl)) pe_int) (pv 5)) (pa_cons (pe_ix ix_tup (pv 6) pe_int (fun _ _ => rfl)) (pa_cons (pe_ix ix_tup (pv 6) pe_int (fun _ _ => rfl)) pa_nil))))) (pg_sub (pv 7) (pv 4) set_list)))
       pss_nil)
       (C8.pss_cut (ps_if (pt_cmpR op_eq (pv 3) pe_int (nomark _))
       (pss_one (ps_asg (pe_tup (pa_cons pe_int (pa_cons (pe_ix ix_tup (pv 6) pe_int (fun _ _ => rfl)) (pa_cons (pe_op op_add (pe_op op_add (pe_ix ix_tup (pv 6) pe_int (fun _ _ => rfl)) pe_int) (pv 5)) (pa_cons (pe_ix ix_tup (pv 6) pe_int (fun _ _ => rfl)) pa_nil))))) (pg_sub (pv 7) (pv 4) set_list)))
       pss_nil)
       (C8.pss_cut (ps_if (pt_cmpR op_eq (pv 3) pe_int (nomark _))
       (pss_cons (ps_set (i := 8) sc_law_spoilt.nd rfl (Or.inl rfl) (pe_callTy c_list (by rfl) T.n_list (by decide +kernel) (pa_cons (pv 2) pa_nil)))
       (pss_cons (ps_asg (pe_op op_add pe_int (pv 5)) (pg_sub (pv 8) (pe_fld (pv 0) rfl) set_list))
       (pss_one (ps_set (i := 7) sc_law_spoilt.nd rfl (Or.inl rfl) (pe_call (ok_law_parts T) (hr.mono (by decide)) rfl T.m_law_parts T.F_law_parts.kp T.b_law_parts .nil pass0 (pa_cons (pv 0) (pa_cons (pv 8) (pa_cons (pe_ix ix_tup (pv 6) pe_int (fun _ _ => rfl)) pa_nil))))))))
       pss_nil)
       (pss_one (ps_ret (pv 7)))))))))), ?_⟩
    try dsimp only [cxOf, Cx.nox, Cx.wish]
    obtain ⟨p, a, b, L, c, n, l, at', ns, sq, ft, cg, vs, rfl, hL, hv, hP, hS, ec, en, el, z0, z1, c1, n1, hl, hat, f0, c0, nn, q⟩ := h
    have cl_Layout := T.cl_Layout
    have na_Layout_block_size := T.na_Layout_block_size
    have na_Layout_last_id := T.na_Layout_last_id
    obtain ⟨dx, fs, hp, F⟩ := id hL
    have lk1 := F.size
    have lk2 := F.last
    obtain ⟨v0, hv0, hp0⟩ := paired_at' hP (partsI_at hat)
    obtain ⟨t0, b0, rfl, ht0, hb0⟩ := hp0.inv
    dsimp only at ht0 hb0
    have hvl : vs.length = n := by rw [Paired.length hP, partsI_len]
    walk_at "go"
    refine r_ixl (.of hv) (v := .ref t0) (atI_nat hv0) ?_
    walk_at "go"
    rename_i ls nls H1 s1 g1
    have fin : ∀ (H3 : Hp) (v : V) (o : Option PI), Same H1 H3 → PAt K H3 v o → BadO sq at' o → Q (.ref ls) (upd H3 ls (.lst (vs.set at' v))) := fun H3 v o s3 hv hb => by
      have k3 : Keeps H (upd H3 ls (.lst (vs.set at' v))) := (Keeps.of (s1.trans s3)).trans (Keeps.upd (s3 _ _ g1) lstNF rfl)
      exact q _ _ _ _ (Sg.Same.old (s1.trans s3) nls rfl) nls upd_same (paired_set (hv.keeps (Keeps.upd (s3 _ _ g1) lstNF rfl)) at' (pats_keeps k3 hP)) (.inr (.inl ⟨o, rfl, hb⟩))
    rcases (by omega : ft = 0 ∨ ft = 1 ∨ ft = 2 ∨ ft = 3 ∨ ft = 4 ∨ 4 < ft) with e | e | e | e | e | e
    · walk_at "gc"
      refine r_setl g1 (ixN_ok (by omega) (by omega)) ?_
      rw [Int.toNat_natCast]
      walk_at "gc"
      exact fin _ _ none (Same.refl _) .none ⟨fun j z => (nomatch z), Nat.zero_le _, fun x hx => (nomatch hx)⟩
    · walk_at "gc"
      rename_i m' em m0 m1 p1 n1' H2 s2 g2
      refine ⟨_, _, _, rfl, rfl, .of g2, by simp, by omega, by omega, by simp, ?_⟩
      walk_at "al"
      walk_at "gc"
      rename_i p3 n3 H3 s3 g3 p4 n4 H4 s4 g4
      refine r_setl ((s2.trans (s3.trans s4)) _ _ g1) (ixN_ok (by omega) (by omega)) ?_
      rw [Int.toNat_natCast]
      walk_at "gc"
      refine fin _ _ (some ⟨3, sq, at', List.replicate L.size.toNat m'⟩) (s2.trans (s3.trans s4)) (.some (.of g4) (.of ?_)) ⟨fun j z => ?_, ?_, fun x hx => ?_⟩
      · rw [s4 _ _ g3]
        simp [List.map_replicate]
      · cases z
        exact .inl (show (3 : Int) ≠ 5 by decide)
      · show (List.replicate _ _).length ≤ _
        rw [List.length_replicate]; omega
      · rw [List.eq_of_mem_replicate hx]; exact m0
    · walk_at "gc"
      rename_i p4 n4 H4 s4 g4
      refine r_setl (s4 _ _ g1) (ixN_ok (by omega) (by omega)) ?_
      rw [Int.toNat_natCast]
      walk_at "gc"
      refine fin _ _ (some ⟨5, sq + 1 + cg, at', chunk c ns at'⟩) s4 (.some (.of g4) (Same.tup (s1.trans s4) hb0)) ⟨fun j z => ?_, Nat.le_trans chunk_len (by omega), chunk_nn nn⟩
      cases z
      exact .inr (.inl (by show sq + 1 + cg ≠ sq; omega))
    · walk_at "gc"
      rename_i p4 n4 H4 s4 g4
      refine r_setl (s4 _ _ g1) (ixN_ok (by omega) (by omega)) ?_
      rw [Int.toNat_natCast]
      walk_at "gc"
      refine fin _ _ (some ⟨5, sq, (at' : Int) + 1 + cg, chunk c ns at'⟩) s4 (.some (.of g4) (Same.tup (s1.trans s4) hb0)) ⟨fun j z => ?_, Nat.le_trans chunk_len (by omega), chunk_nn nn⟩
      cases z
      exact .inr (.inr (by show (at' : Int) + 1 + cg ≠ at'; omega))
    · walk_at "gc"
      rename_i lw nlw H2 s2 g2
      rw [el]
      refine r_setl g2 (ixN_ok (by omega) (by rw [List.length_map]; omega)) ?_
      rw [Int.toNat_natCast, set_ints]
      generalize hH : upd _ _ _ = H3
      have s3 : Same H1 H3 := Sg.Same.old s2 nlw hH
      have g3 : H3 lw = some (.lst ((ns.set l (2 + cg)).map V.int)) := Sg.at_new hH
      walk_at "gc"
      rename_i H4 t4 vs4 s4 n4 g4 hP4
      exact q _ _ _ _ (by walk_at "sm") ((s1.trans s3).free n4) g4 hP4 (.inr (.inr rfl))
    · walk_at "gc"
      exact q _ _ _ _ s1 nls g1 (pats_keeps (Keeps.of s1) hP) (.inl rfl)
/-! ### the law's question -/
structure CkIn (K : PySem.W.Frag) (C CL : Addr) (H0 H : Hp) (d : Addr) (m : DevM) (L : Lay) (g : Int) (l n : Nat) (f : Nat → Option PI) : Prop where
  hD : DevIn C H0 H d m
  hL : LayAt CL L H m.lay
  g0 : 0 ≤ g
  g1 : g ≤ 1
  el : L.last = (l : Nat)
  l0 : 1 ≤ l
  l1 : l ≤ 465
  e0 : 4 ≤ L.seg
  e1 : L.seg ≤ 16
  en : L.reg = (n : Nat)
  n0 : 1 ≤ n
  n1 : n ≤ 100
  hf : ∀ r : Nat, r < n → PAt K H (readF m (g * L.reg + r)) (f r)
  hb : ∀ r, r < n → (bodyOf (f r)).length ≤ 256 ∧ ∀ x ∈ bodyOf (f r), 0 ≤ x
  hlen : ∀ s, GoodTo f s n → 4 * l + 6 ≤ (numsTo f n).length
theorem CkIn.mono {K : PySem.W.Frag} {C CL : Addr} {H0 H H' : Hp} {d : Addr} {m : DevM} {L : Lay} {g : Int} {l n : Nat} {f : Nat → Option PI} (s : Same H H') (h : CkIn K C CL H0 H d m L g l n f) : CkIn K C CL H0 H' d m L g l n f := by
  obtain ⟨a1, a2, a3, a4, a5, a6, a7, a8, a9, a10, a11, a12, a13, a14, a15⟩ := h
  exact ⟨a1.mono s, a2.mono s, a3, a4, a5, a6, a7, a8, a9, a10, a11, a12, fun r hr => (a13 r hr).keeps (Keeps.of s), a14, a15⟩
theorem i_ck {K : PySem.W.Frag} {C CL : Addr} {args_ : List V} {H : Hp} {Q : V → Hp → Prop} {E : XK} {H0 : Hp} {d : Addr} {m : DevM} {L : Lay} {g : Int} {l n : Nat} {f : Nat → Option PI} (ev : args_ = [.ref d, .int g]) (h : CkIn K C CL H0 H d m L g l n f)
    (q1 : ∀ s, GoodTo f s n → RdOk l L.seg (numsTo f n) → ∀ H' t a, Same H H' → H' t = some (.tup [.int s, .ref a]) → H' a = some (.lst ((numsTo f n).map V.int)) → Q (.ref t) H') (q2 : ¬ Tells f n l L.seg → ∀ H', Same H H' → Q .non H') : sp_checkpoint_in K C CL args_ H Q E := by
  obtain ⟨a1, a2, a3, a4, a5, a6, a7, a8, a9, a10, a11, a12, a13, a14, a15⟩ := h
  exact i_checkpoint_in ev a1 a2 a3 a4 a5 a6 a7 a8 a9 a10 a11 a12 a13 a14 a15 q1 q2
def sp_law_holds (K : PySem.W.Frag) (C CL : Addr) : Sp := fun args_ H Q _ => ∃ (H0 : Hp) (d b : Addr) (m : DevM) (L : Lay) (g sq : Int) (l n : Nat) (f : Nat → Option PI), args_ = [.ref d, .int g, .int sq, .ref b] ∧ CkIn K C CL H0 H d m L g l n f ∧ GoodTo f sq n ∧ RdOk l L.seg (numsTo f n) ∧ SqL K H b ((numsTo f n).map V.int) ∧ ∀ H', Same H H' → Q (.bl true) H'
theorem i_law_holds {K : PySem.W.Frag} {C CL : Addr} {args_ : List V} {H : Hp} {Q : V → Hp → Prop} {E : XK} {H0 : Hp} {d b : Addr} {m : DevM} {L : Lay} {g sq : Int} {l n : Nat} {f : Nat → Option PI} (ev : args_ = [.ref d, .int g, .int sq, .ref b]) (hC : CkIn K C CL H0 H d m L g l n f) (hg : GoodTo f sq n) (hok : RdOk l L.seg (numsTo f n)) (hB : SqL K H b ((numsTo f n).map V.int)) (q : ∀ H', Same H H' → Q (.bl true) H') : sp_law_holds K C CL args_ H Q E := ⟨H0, d, b, m, L, g, sq, l, n, f, ev, hC, hg, hok, hB, q⟩
local macro_rules | `(tactic| walk_at "ca1") => `(tactic| with_reducible (refine' Sg.i_law_holds ?ev ?hC ?hg ?hok ?hB ?_; (case ev => (with_unfolding_all rfl)); (case hC => (with_unfolding_all walk_at "pr")); (case hg => (with_unfolding_all walk_at "pr")); (case hok => (with_unfolding_all walk_at "pr")); (case hB => (with_unfolding_all walk_at "pr")); intros))

theorem ok_law_holds (T : Txt K mg) : FnOk P w K mg base CX0 3 T.a_law_holds T.fd_law_holds ["device", "region", "sequence", "numbers"] (sp_law_holds K T.A_Device T.A_Layout) := by
  refine T.F_law_holds.ok sc_law_holds (fun vs H Q E h => ?_) (fun cdv A outer s H vs Q E hr h => ?_)
  · obtain ⟨H0, d, b, m, L, g, sq, l, n, f, rfl, _⟩ := h
    rfl
  · refine ⟨_, (pss_cons (ps_set (i := 4) sc_law_holds.nd rfl (Or.inl rfl) (pe_call (ok_checkpoint_in T) (hr.mono (by decide)) rfl T.m_checkpoint_in T.F_checkpoint_in.kp T.b_checkpoint_in .nil pass0 (pa_cons (pv 0) (pa_cons (pv 1) pa_nil))))
       (C8.pss_cut (ps_if (PW.pt (pw_or (pt_not (pt_val (pe_callB (call_isi) (by rfl) T.n_isinstance (by decide +kernel) (pa_cons (pv 4) (pa_cons (pe_bltn (v := .ty "tuple") (by rfl) T.n_tuple (by decide +kernel) rfl) pa_nil))))) (pw_or (pt_cmpR op_ne (pe_callB (c_len) (by rfl) T.n_len (by decide +kernel) (pa_cons (pv 4) pa_nil)) pe_int (nomark _)) (pw_or1 (pt_val (pe_callB (call_isi) (by rfl) T.n_isinstance (by decide +kernel) (pa_cons (pe_ix ix_tup (pv 4) pe_int (fun _ _ => rfl)) (pa_cons (pe_bltn (v := .ty "bool") (by rfl) T.n_bool (by decide +kernel) rfl) pa_nil))))))))
       (pss_one (ps_ret pe_bl))
       pss_nil)
       (pss_one (ps_ret (pe_and (pe_cmpR op_eq (pe_ix ix_tup (pv 4) pe_int (fun _ _ => rfl)) (pv 2) (nomark _)) (pe_and (pe_callB (call_isi) (by rfl) T.n_isinstance (by decide +kernel) (pa_cons (pe_ix ix_tup (pv 4) pe_int (fun _ _ => rfl)) (pa_cons (pe_bltn (v := .ty "list") (by rfl) T.n_list (by decide +kernel) rfl) pa_nil))) (pe_one (pe_cmpR (op_eqD hr.units) (pe_ix ix_tup (pv 4) pe_int (fun _ _ => rfl)) (pv 3) (nomark _))))))))), ?_⟩
    try dsimp only [cxOf, Cx.nox, Cx.wish]
    obtain ⟨H0, d, b, m, L, g, sq, l, n, f, rfl, hC, hg, hok, hB, q⟩ := h
    walk_at "rd"
    refine i_ck rfl hC (fun s hs _ H1 t a s1 h1 h2 => ?_) (fun h => absurd ⟨sq, hg, hok⟩ h)
    have e : s = sq := (hs.seq hC.n0).trans (hg.seq hC.n0).symm
    subst e
    have hB1 := s1.seq hB
    walk_at "gc"
    refine r_eqI (.of h2) hB1 ?_
    exact q _ s1
theorem fOf_set {os : List (Option PI)} {o : Option PI} {a k : Nat} (h : a < os.length) : (os.set a o).getD k none = if a = k then o else os.getD k none := by
  rw [List.getD_eq_getElem?_getD]
  by_cases e : a = k
  · subst e
    rw [List.getElem?_set_self h, if_pos rfl]
    rfl
  · rw [List.getElem?_set_ne e, if_neg e, List.getD_eq_getElem?_getD]
theorem partsI_get {c : Nat} {ns : List Int} {sq : Int} {n k : Nat} (h : k < n) : (partsI c ns sq n).getD k none = some ⟨5, sq, (k : Nat), chunk c ns k⟩ := by
  rw [List.getD_eq_getElem?_getD, partsI_at h]
  rfl
theorem parts_good {c : Nat} {ns : List Int} {sq : Int} {n : Nat} : GoodTo (fun k => (partsI c ns sq n).getD k none) sq n := fun r hr => ⟨_, partsI_get hr, rfl, rfl, rfl⟩
theorem parts_nums {c : Nat} {ns : List Int} {sq : Int} {n : Nat} : ∀ j, j ≤ n → numsTo (fun k => (partsI c ns sq n).getD k none) j = ns.take (j * c)
  | 0, _ => by rw [numsTo, Nat.zero_mul]; rfl
  | j + 1, h => by
    rw [numsTo, parts_nums j (by omega), partsI_get (by omega), Nat.succ_mul, List.take_add]
    rfl
theorem parts_all {c : Nat} {ns : List Int} {sq : Int} {n : Nat} (h : ns.length = n * c) : numsTo (fun k => (partsI c ns sq n).getD k none) n = ns := by
  rw [parts_nums n (Nat.le_refl _), ← h, List.take_length]
theorem parts_body {c : Nat} {ns : List Int} {sq : Int} {n : Nat} (c1 : c ≤ 128) (nn : ∀ x ∈ ns, 0 ≤ x) (r : Nat) (hr : r < n) : (bodyOf ((partsI c ns sq n).getD r none)).length ≤ 256 ∧ ∀ x ∈ bodyOf ((partsI c ns sq n).getD r none), 0 ≤ x := by
  rw [partsI_get hr]
  exact ⟨Nat.le_trans chunk_len (by omega), chunk_nn nn⟩
/-- what is spoilt tells nothing -/
theorem spoil_facts {c n l at' : Nat} {ns : List Int} {sq ft cg sg : Int} {os : List (Option PI)} (h : SpoilP c ns sq n l ft cg at' os) (hl : ns.length = n * c) (l4 : 4 * l + 6 ≤ ns.length) (n2 : 2 ≤ n) (hat : at' < n) (c1 : c ≤ 128) (nn : ∀ x ∈ ns, 0 ≤ x) (cg0 : 0 ≤ cg) :
    os.length = n ∧ (∀ r, r < n → (bodyOf (os.getD r none)).length ≤ 256 ∧ ∀ x ∈ bodyOf (os.getD r none), 0 ≤ x) ∧ (∀ s, GoodTo (fun k => os.getD k none) s n → 4 * l + 6 ≤ (numsTo (fun k => os.getD k none) n).length) ∧
      (os = partsI c ns sq n ∨ ¬ Tells (fun k => os.getD k none) n l sg) := by
  rcases h with rfl | ⟨o, rfl, hb, b1, b2⟩ | rfl
  · exact ⟨partsI_len, parts_body c1 nn, fun s _ => by rw [parts_all hl]; exact l4, .inl rfl⟩
  · have no : ∀ s, ¬ GoodTo (fun k => ((partsI c ns sq n).set at' o).getD k none) s n := fun s hg => by
      have hl' : at' < (partsI c ns sq n).length := by rw [partsI_len]; exact hat
      obtain ⟨j, e, k1, k2, k3⟩ := hg at' hat
      simp only [fOf_set hl', if_pos] at e
      have hs : s = sq := by
        obtain ⟨r, hr, hne⟩ : ∃ r, r < n ∧ at' ≠ r := by
          rcases Nat.eq_zero_or_pos at' with e | e
          · exact ⟨1, by omega, by omega⟩
          · exact ⟨0, by omega, by omega⟩
        obtain ⟨j', e', _, k2', _⟩ := hg r hr
        simp only [fOf_set hl', if_neg hne, partsI_get hr] at e'
        cases e'
        exact k2'.symm
      subst hs
      rcases hb j e with z | z | z
      · exact z k1
      · exact z k2
      · exact z k3
    refine ⟨by rw [List.length_set, partsI_len], fun r hr => ?_, fun s hg => absurd hg (no s), .inr fun ⟨s, hg, _⟩ => no s hg⟩
    rw [fOf_set (by rw [partsI_len]; exact hat)]
    split
    · exact ⟨b1, b2⟩
    · exact parts_body c1 nn r hr
  · have hl2 : (ns.set l (2 + cg)).length = n * c := by rw [List.length_set]; exact hl
    have nn2 := set_nn (i := l) nn (show 0 ≤ 2 + cg by omega)
    refine ⟨partsI_len, parts_body c1 nn2, fun s _ => by rw [parts_all hl2, List.length_set]; exact l4, .inr fun ⟨s, _, hr⟩ => ?_⟩
    rw [parts_all hl2] at hr
    refine hr.1 0 (by decide) (.inl ?_)
    unfold flag
    rw [Nat.zero_mul, Nat.add_zero, getD_set_eq (by omega)]
    omega
theorem pats_get {K : PySem.W.Frag} {H : Hp} {vs : List V} {os : List (Option PI)} (h : Paired (PAt K H) vs os) {r : Nat} (hr : r < vs.length) : PAt K H (vs.getD r .non) (os.getD r none) := by
  obtain ⟨o, e, p⟩ := paired_at h (List.getElem?_eq_getElem hr)
  rw [List.getD_eq_getElem?_getD, List.getD_eq_getElem?_getD, e, List.getElem?_eq_getElem hr]
  exact p
/-! ### a device is made, written: walking rules -/
theorem made_same2 {H : Hp} {x dx : Addr} {o o' : HO} (nx : H x = none) (nd : H dx = none) : Same H (upd (upd H dx o) x o') := fun b u e => by
  rw [upd_ne (ne_of_none e nx), upd_ne (ne_of_none e nd)]
  exact e
theorem i_devnewL {K : PySem.W.Frag} {C CL : Addr} {H : Hp} {Q : Addr → Hp → Prop} {E : XK} {vs dvs : List V} {lay l : Addr} {L : Lay} {xs : List V} (ev : vs ++ dvs = [.ref lay, .ref l]) (hL : LayAt CL L H lay) (hl : SqL K H l xs) (q : ∀ d H', DevIn C H H' d (newM lay xs) → Q d H') :
    ∀ x dx, H x = none → H dx = none → dx ≠ x → sp_dev_init K C CL (.ref x :: (vs ++ dvs)) (upd (upd H dx (.own x)) x (.ins C dx [])) (fun v H2 => v = .non ∧ Q x H2) E := fun x dx nx nd _ => by
  rw [ev]
  exact ⟨H, x, dx, lay, L, .ref l, xs, rfl, upd_same, made_same2 nx nd, nx, hL.mono (made_same2 nx nd), .inr ⟨l, rfl, (made_same2 nx nd).seq hl⟩, fun H' hD _ => ⟨rfl, q x H' hD⟩⟩
theorem i_devnewN {K : PySem.W.Frag} {C CL : Addr} {H : Hp} {Q : Addr → Hp → Prop} {E : XK} {vs dvs : List V} {lay : Addr} {L : Lay} (ev : vs ++ dvs = [.ref lay, .non]) (hL : LayAt CL L H lay) (d0 : 0 ≤ L.dev) (d1 : L.dev ≤ 100000) (q : ∀ d H', DevIn C H H' d (newM lay (List.replicate L.dev.toNat V.non)) → Q d H') :
    ∀ x dx, H x = none → H dx = none → dx ≠ x → sp_dev_init K C CL (.ref x :: (vs ++ dvs)) (upd (upd H dx (.own x)) x (.ins C dx [])) (fun v H2 => v = .non ∧ Q x H2) E := fun x dx nx nd _ => by
  rw [ev]
  exact ⟨H, x, dx, lay, L, .non, _, rfl, upd_same, made_same2 nx nd, nx, hL.mono (made_same2 nx nd), .inl ⟨rfl, d0, d1, rfl⟩, fun H' hD _ => ⟨rfl, q x H' hD⟩⟩
local macro_rules | `(tactic| walk_at "ca1") => `(tactic| with_reducible (refine' Sg.i_devnewL ?ev ?hL ?hl ?_; (case ev => (with_unfolding_all rfl)); (case hL => (with_unfolding_all walk_at "pr")); (case hl => (with_unfolding_all walk_at "pr")); intros))
local macro_rules | `(tactic| walk_at "ca1") => `(tactic| with_reducible (refine' Sg.i_devnewN ?ev ?hL ?d0 ?d1 ?_; (case ev => (with_unfolding_all rfl)); (case hL => (with_unfolding_all walk_at "pr")); (case d0 => omega); (case d1 => omega); intros))

def spLawK (K : PySem.W.Frag) : Sp := fun vs H Q _ => ∃ (a : Addr) (ns : List Int), vs = [.ref a] ∧ Scr K H a ns ∧ ns.length ≤ 63 ∧ ∀ H', Q (.bl true) H'
theorem ok_law (T : Txt K mg) : FnOk P w K mg base CX0 5 T.a_law T.fd_law ["script"] (spLawK K) := by
  refine T.F_law.ok sc_law (fun vs H Q E h => ?_) (fun cdv A outer s H vs Q E hr h => ?_)
  · obtain ⟨a, ns, rfl, _⟩ := h
    rfl
  · refine ⟨_, (pss_cons (ps_set (i := 1) sc_law.nd rfl (Or.inl rfl) (pe_call (ok_law_layout T) (hr.mono (by decide)) rfl T.m_law_layout T.F_law_layout.kp T.b_law_layout .nil pass0 (pa_cons (pe_call (ok_law_row T) (hr.mono (by decide)) rfl T.m_law_row T.F_law_row.kp T.b_law_row .nil pass0 (pa_cons (pv 0) (pa_cons pe_int pa_nil))) pa_nil)))
       (pss_cons (ps_set (i := 2) sc_law.nd rfl (Or.inl rfl) (pe_fld (pv 1) rfl))
       (pss_cons (ps_asg (pe_call (ok_law_digits T) (hr.mono (by decide)) rfl T.m_law_digits T.F_law_digits.kp T.b_law_digits .nil pass0 (pa_cons (pe_call (ok_law_row T) (hr.mono (by decide)) rfl T.m_law_row T.F_law_row.kp T.b_law_row .nil pass0 (pa_cons (pv 0) (pa_cons pe_int pa_nil))) (pa_cons (pe_lst (pa_cons pe_int (pa_cons pe_int (pa_cons (pv 2) (pa_cons pe_int (pa_cons (pe_op op_pow pe_int pe_int) pa_nil)))))) pa_nil))) (pg_unl (by rfl) (pgs_cons (pg_name (i := 3) sc_law.nd rfl (Or.inl rfl)) (pgs_cons (pg_name (i := 4) sc_law.nd rfl (Or.inl rfl)) (pgs_cons (pg_name (i := 5) sc_law.nd rfl (Or.inl rfl)) (pgs_cons (pg_name (i := 6) sc_law.nd rfl (Or.inl rfl)) (pgs_cons (pg_name (i := 7) sc_law.nd rfl (Or.inl rfl)) pgs_nil)))))))
       (pss_cons (ps_set (i := 8) sc_law.nd rfl (Or.inl rfl) (pe_call (ok_law_numbers T) (hr.mono (by decide)) rfl T.m_law_numbers T.F_law_numbers.kp T.b_law_numbers .nil pass0 (pa_cons (pv 1) (pa_cons (pv 0) (pa_cons pe_int pa_nil)))))
       (pss_cons (ps_set (i := 9) sc_law.nd rfl (Or.inl rfl) (pe_call (ok_law_numbers T) (hr.mono (by decide)) rfl T.m_law_numbers T.F_law_numbers.kp T.b_law_numbers .nil pass0 (pa_cons (pv 1) (pa_cons (pv 0) (pa_cons pe_int pa_nil)))))
       (pss_cons (ps_set (i := 10) sc_law.nd rfl (Or.inl rfl) (pe_call (ok_law_parts T) (hr.mono (by decide)) rfl T.m_law_parts T.F_law_parts.kp T.b_law_parts .nil pass0 (pa_cons (pv 1) (pa_cons (pv 8) (pa_cons (pv 7) pa_nil)))))
       (pss_cons (ps_set (i := 11) sc_law.nd rfl (Or.inl rfl) (pe_call (ok_law_parts T) (hr.mono (by decide)) rfl T.m_law_parts T.F_law_parts.kp T.b_law_parts .nil pass0 (pa_cons (pv 1) (pa_cons (pv 9) (pa_cons (pe_op op_add (pe_op op_add (pv 7) (pv 6)) pe_int) pa_nil)))))
       (pss_cons (ps_set (i := 12) sc_law.nd rfl (Or.inl rfl) (pe_call (ok_law_spoilt T) (hr.mono (by decide)) rfl T.m_law_spoilt T.F_law_spoilt.kp T.b_law_spoilt .nil pass0 (pa_cons (pv 1) (pa_cons (pv 10) (pa_cons (pv 8) (pa_cons (pv 4) (pa_cons (pv 5) (pa_cons (pv 6) pa_nil))))))))
       (pss_cons (ps_set (i := 13) sc_law.nd rfl (Or.inl rfl) (pe_op op_rep (pe_lst (pa_cons pe_non pa_nil)) (pe_fld (pv 1) rfl)))
       (pss_cons (ps_for PassesOwn.never rfl (pi_range1 rfl T.n_range (pa_cons (pv 2) pa_nil)) (pg_name (i := 14) sc_law.nd rfl (Or.inl rfl))
       (pss_cons (ps_asg (pe_ix ix_list (pv 12) (pv 14) (fun _ _ => rfl)) (pg_sub (pv 13) (pe_op op_add (pe_op op_mul (pv 3) (pv 2)) (pv 14)) set_list))
       (pss_one (ps_asg (pe_ix ix_list (pv 11) (pv 14) (fun _ _ => rfl)) (pg_sub (pv 13) (pe_op op_add (pe_op op_mul (pe_op op_sub pe_int (pv 3)) (pv 2)) (pv 14)) set_list)))))
       (pss_cons (ps_set (i := 15) sc_law.nd rfl (Or.inl rfl) (pe_make T.M_Device (ok_Device___init T) (hr.mono (by decide)) rfl T.m_Device T.b_Device___init .nil pass0 (pa_cons (pv 1) (pa_cons (pv 13) pa_nil))))
       (pss_cons (ps_if (pt_not (pt_val (pe_call (ok_law_holds T) (hr.mono (by decide)) rfl T.m_law_holds T.F_law_holds.kp T.b_law_holds .nil pass0 (pa_cons (pv 15) (pa_cons (pe_op op_sub pe_int (pv 3)) (pa_cons (pe_op op_add (pe_op op_add (pv 7) (pv 6)) pe_int) (pa_cons (pv 9) pa_nil)))))))
       (pss_one (ps_ret pe_bl))
       pss_nil)
       (C8.pss_cut (ps_if (pt_cmpR (op_neD hr.units) (pv 12) (pv 10) (nomark _))
       (pss_cons (ps_if (pt_cmp (pc_notN (pe_call (ok_checkpoint_in T) (hr.mono (by decide)) rfl T.m_checkpoint_in T.F_checkpoint_in.kp T.b_checkpoint_in .nil pass0 (pa_cons (pv 15) (pa_cons (pv 3) pa_nil)))) rfl)
       (pss_one (ps_ret pe_bl))
       pss_nil)
       (pss_one (ps_for PassesOwn.never rfl (pi_range1 rfl T.n_range (pa_cons (pv 2) pa_nil)) (pg_name (i := 14) sc_law.nd rfl (Or.inl rfl))
       (pss_one (ps_expr (pe_meth (pv 15) T.cl_Device T.me_Device_write (ok_Device_write T) (hr.mono (by decide)) T.b_Device_write .nil pass0 (pa_cons (pe_op op_add (pe_op op_mul (pv 3) (pv 2)) (pv 14)) (pa_cons (pe_ix ix_list (pv 10) (pv 14) (fun _ _ => rfl)) pa_nil))))))))
       pss_nil)
       (pss_one (ps_ret (pe_call (ok_law_holds T) (hr.mono (by decide)) rfl T.m_law_holds T.F_law_holds.kp T.b_law_holds .nil pass0 (pa_cons (pv 15) (pa_cons (pv 3) (pa_cons (pv 7) (pa_cons (pv 8) pa_nil)))))))))))))))))))), ?_⟩
    try dsimp only [cxOf, Cx.nox, Cx.wish]
    obtain ⟨a, sc, rfl, hS, h63, q⟩ := h
    have hS : SqL K H a (sc.map V.int) := hS _ (Keeps.refl _)
    have cl := T.cl_Layout
    have na1 := T.na_Layout_region_blocks
    have na2 := T.na_Layout_device_blocks
    have cd := T.cl_Device
    walk_at "go"
    rename_i L H1 p hC s1 np hL
    obtain ⟨dx, fs, hp, F⟩ := id hL
    have lk1 := F.reg
    have lk2 := F.dev
    obtain ⟨n, en⟩ : ∃ n : Nat, L.reg = (n : Int) := ⟨L.reg.toNat, by have := hC.r0; omega⟩
    obtain ⟨c, ec⟩ : ∃ c : Nat, L.fan = (c : Int) := ⟨L.fan.toNat, by have := hC.f0; omega⟩
    obtain ⟨l, el⟩ : ∃ l : Nat, L.last = (l : Int) := ⟨L.last.toNat, by have := hC.l0; omega⟩
    have k1 := hC.r0
    have k2 := hC.r1
    have k3 := hC.f0
    have k4 := hC.f1
    have k5 := hC.l0
    have k6 := hC.l1
    have k7 := hC.d0
    have k8 := hC.d1
    have k9 := hC.z0
    have k10 := hC.z1
    have k11 := hC.s0
    have k12 := hC.s1
    have k13 : 2 * L.reg ≤ L.dev := by
      have h1 := hC.dv
      have h2 := hC.b0
      have h3 : 4 * L.blk ≤ L.seg * L.blk := Int.mul_le_mul_of_nonneg_right k11 (by omega)
      omega
    have c1 : c ≤ 128 := by omega
    have n1 : n ≤ 100 := by omega
    walk_at "go"
    rename_i y1 y10 pz nz Hz sz' gz rg rg0 rg1 ft ft0 ft1 ay at0 at1 cg cg0 cg1 sq sq0 sq1 H2 pdg s2 n2 g2 H3 ln N s3 nln gN lN nN okN H4 lo O s4 nlo gO lO nO okO H5 lg gs s5 nlg gg hgs H6 lu us s6 nlu gu hus
    obtain ⟨at', rfl⟩ : ∃ k : Nat, ay = (k : Int) := ⟨ay.toNat, by omega⟩
    have hat : at' < n := by omega
    have lN' : N.length = n * c := by
      have : (N.length : Int) = ((n * c : Nat) : Int) := by rw [lN, en, ec]; simp
      omega
    have lO' : O.length = n * c := by
      have : (O.length : Int) = ((n * c : Nat) : Int) := by rw [lO, en, ec]; simp
      omega
    have l4 : 4 * l + 6 ≤ n * c := by
      have h1 := hC.rf0
      have h2 : L.reg * L.fan = ((n * c : Nat) : Int) := by rw [en, ec]; simp
      omega
    have lN0 : l < N.length := by omega
    have r0 : 2 ≤ L.size := by omega
    have gg6 := s6 _ _ gg
    have hgs6 := pats_keeps (Keeps.of s6) hgs
    walk_at "go"
    rename_i H7 lw ws os s7 nlw gw hws hsp pb npb H8 s8 gb pw nw H9 s9 g9
    have l4' : 4 * l + 6 ≤ N.length := by omega
    obtain ⟨ols, obd, oln, otl⟩ := spoil_facts (sg := L.seg) hsp lN' l4' (by omega) hat c1 nN (by omega)
    have s68 : Same H6 H8 := s7.trans s8
    have hpb := ((s3.trans (s4.trans (s5.trans s6))).trans s68)
    have gN8 := (s4.trans (s5.trans (s6.trans s68))) _ _ gN
    have gO8 := (s5.trans (s6.trans s68)) _ _ gO
    have gg8 := s68 _ _ gg6
    have hgs8 := pats_keeps (Keeps.of s68) hgs6
    have gu8 := s68 _ _ gu
    have hus8 := pats_keeps (Keeps.of s68) hus
    have gw8 := s8 _ _ gw
    have hws8 := pats_keeps (Keeps.of s8) hws
    have hp8 := (sz'.trans (s2.trans hpb)) _ _ hp
    have s08 : True := trivial
    clear gN gO gg gg6 hgs hgs6 gu hus gw hws hp gb nln nlo nlg nlu nlw npb s3 s4 s5 s6 s7 s8 s68 hpb gz nz g2 n2 s2 sz' hL hS hsp
    obtain ⟨A, B, hA, hB, hAB⟩ : ∃ A B : Nat, rg * L.reg = (A : Int) ∧ (1 - rg) * L.reg = (B : Int) ∧ ((A = 0 ∧ B = n) ∨ (A = n ∧ B = 0)) := by
      rcases (by omega : rg = 0 ∨ rg = 1) with rfl | rfl
      · exact ⟨0, n, by rw [Int.zero_mul]; rfl, by rw [en]; omega, .inl ⟨rfl, rfl⟩⟩
      · exact ⟨n, 0, by rw [en]; omega, by rw [Int.sub_self, Int.zero_mul]; rfl, .inr ⟨rfl, rfl⟩⟩
    have lws : ws.length = n := by rw [Paired.length hws8, ols]
    have lus : us.length = n := by rw [Paired.length hus8, partsI_len]
    have lgs : gs.length = n := by rw [Paired.length hgs8, partsI_len]
    have g9' : H9 pw = some (.lst (List.replicate L.dev.toNat V.non)) := g9
    refine r_forR (fun i σ' H' => ∃ (v14 : Option V) (xs : List V), σ' = [some (.ref a), some (.ref p), some (.int L.reg), some (.int rg), some (.int ft), some (.int at'), some (.int cg), some (.int sq), some (.ref ln), some (.ref lo), some (.ref lg), some (.ref lu), some (.ref lw), some (.ref pw), v14, none] ∧ Same H8 H' ∧ H' pw = some (.lst xs) ∧ (xs.length : Int) = L.dev ∧ ∀ k, k < i → xs[A + k]? = ws[k]? ∧ xs[B + k]? = us[k]?) ?_ ?_ ?_
    · exact ⟨_, _, rfl, s9, g9, by rw [List.length_replicate]; omega, fun k hk => absurd hk (Nat.not_lt_zero k)⟩
    · clear g9 g9' s9
      rintro i σ' H' hi ⟨v14, xs, rfl, sH, gx, lx, hx⟩
      have hin : i < n := by omega
      have gw' := sH _ _ gw8
      have gu' := sH _ _ gu8
      obtain ⟨w1, hw1⟩ : ∃ v, ws[i]? = some v := ⟨_, List.getElem?_eq_getElem (by omega)⟩
      obtain ⟨u1, hu1⟩ : ∃ v, us[i]? = some v := ⟨_, List.getElem?_eq_getElem (by omega)⟩
      walk_at "go"
      rw [Int.zero_add]
      refine r_ixl (.of gw') (atI_nat hw1) ?_
      walk_at "go"
      rw [hA]
      refine r_setl gx (ixN_ok (by omega) (by omega)) ?_
      rw [show ((A : Int) + (i : Int)).toNat = A + i by omega]
      generalize hH1 : upd _ _ _ = Ha
      have sa : Same H8 Ha := Sg.Same.old sH nw hH1
      have ga := Sg.at_new hH1
      have gua := sa _ _ gu8
      clear hH1
      walk_at "go"
      refine r_ixl (.of gua) (atI_nat hu1) ?_
      walk_at "go"
      rw [hB]
      refine r_setl ga (ixN_ok (by omega) (by rw [List.length_set]; omega)) ?_
      rw [show ((B : Int) + (i : Int)).toNat = B + i by omega]
      generalize hH2 : upd _ _ _ = Hb
      refine ⟨_, _, rfl, Sg.Same.old sa nw hH2, Sg.at_new hH2, by rw [List.length_set, List.length_set]; exact lx, fun k hk => ?_⟩
      rcases Nat.lt_or_ge k i with h | h
      · rw [List.getElem?_set_ne (by omega), List.getElem?_set_ne (by omega), List.getElem?_set_ne (by omega), List.getElem?_set_ne (by omega)]
        exact hx k h
      · have e : k = i := by omega
        subst e
        rw [List.getElem?_set_ne (by omega), List.getElem?_set_self (by omega), List.getElem?_set_self (by rw [List.length_set]; omega)]
        exact ⟨hw1.symm, hu1.symm⟩
    · clear g9 g9' s9
      rintro σ' H' ⟨v14, xs, rfl, sH, gx, lx, hx⟩
      rw [show L.reg.toNat = n by omega] at hx
      have hp' := sH _ _ hp8
      have hL' : LayAt T.A_Layout L H' p := ⟨dx, fs, hp', F⟩
      walk_at "go"
      rename_i d Hd hD
      have s8d := sH.trans hD.same
      have rdA : ∀ (m : DevM) (r : Nat), m.shown = xs → r < n → readF m (rg * L.reg + r) = ws.getD r .non := fun m r e hr => by
        unfold readF
        rw [e, hA, if_pos ⟨by omega, by omega⟩, show ((A : Int) + (r : Int)).toNat = A + r by omega, List.getD_eq_getElem?_getD, (hx r hr).1, ← List.getD_eq_getElem?_getD]
      have rdB : ∀ (m : DevM) (r : Nat), m.shown = xs → r < n → readF m ((1 - rg) * L.reg + r) = us.getD r .non := fun m r e hr => by
        unfold readF
        rw [e, hB, if_pos ⟨by omega, by omega⟩, show ((B : Int) + (r : Int)).toNat = B + r by omega, List.getD_eq_getElem?_getD, (hx r hr).2, ← List.getD_eq_getElem?_getD]
      have cB : CkIn K T.A_Device T.A_Layout H' Hd d (newM p xs) L (1 - rg) l n (fun k => (partsI c O (sq + cg + 10000) n).getD k none) := by
        refine ⟨hD, hL'.mono hD.same, by omega, by omega, el, by omega, by omega, k11, k12, en, by omega, n1, fun r hr => ?_, parts_body c1 nO, fun s _ => by rw [parts_all lO']; omega⟩
        rw [rdB _ r rfl hr]
        exact pats_get (pats_keeps (Keeps.of s8d) hus8) (by omega)
      have gO' := s8d _ _ gO8
      walk_at "go"
      refine i_law_holds (f := fun k => (partsI c O (sq + cg + 10000) n).getD k none) rfl cB parts_good (by rw [parts_all lO']; exact okO) (by rw [parts_all lO']; exact .of gO') (fun H2 s2 => ?_)
      have hD2 := hD.mono s2
      have s82 := s8d.trans s2
      have hgs2 := pats_keeps (Keeps.of s82) hgs8
      have hws2 := pats_keeps (Keeps.of s82) hws8
      have gw2 := s82 _ _ gw8
      have gg2 := s82 _ _ gg8
      have gN2 := s82 _ _ gN8
      have cA : CkIn K T.A_Device T.A_Layout H' H2 d (newM p xs) L rg l n (fun k => os.getD k none) := by
        refine ⟨hD2, hL'.mono (hD.same.trans s2), by omega, by omega, el, by omega, by omega, k11, k12, en, by omega, n1, fun r hr => ?_, obd, oln⟩
        rw [rdA _ r rfl hr]
        exact pats_get hws2 (by omega)
      clear rdB cB hD s8d gO'
      walk_at "go"
      refine r_cut (fun σ' Hx => ∃ (v14 : Option V) (m : DevM), σ' = [some (.ref a), some (.ref p), some (.int L.reg), some (.int rg), some (.int ft), some (.int at'), some (.int cg), some (.int sq), some (.ref ln), some (.ref lo), some (.ref lg), some (.ref lu), some (.ref lw), some (.ref pw), v14, some (.ref d)] ∧ DevIn T.A_Device H' Hx d m ∧ m.lay = p ∧ ∀ r : Nat, r < n → PAt K Hx (readF m (rg * L.reg + r)) ((partsI c N sq n).getD r none)) ?_ ?_
      · walk_at "go"
        refine r_ned (.lst (.of gw2) (pats_dp hws2)) (.lst (.of gg2) (pats_dp hgs2)) (Fl.shaped (fl_pds _)) (Fl.shaped (fl_pds _)) ?_
        have key := eqv_pl os (partsI c N sq n)
        cases hb : PyData.eqv (.list (os.map pd)) (.list ((partsI c N sq n).map pd)) with
        | true =>
          have e := key.mp hb
          subst e
          walk_at "go"
          exact ⟨_, _, rfl, hD2, rfl, fun r hr => cA.hf r hr⟩
        | false =>
          have ne : ¬ os = partsI c N sq n := fun z => by rw [key.mpr z] at hb; cases hb
          have nt := otl.resolve_left ne
          walk_at "go"
          refine i_ck rfl cA (fun s h1 h2 => absurd ⟨s, h1, h2⟩ nt) (fun _ H3 s3 => ?_)
          have hD3 := hD2.mono s3
          walk_at "go"
          refine r_forR (fun i σ' Hx => ∃ (v14 : Option V) (m : DevM), σ' = [some (.ref a), some (.ref p), some (.int L.reg), some (.int rg), some (.int ft), some (.int at'), some (.int cg), some (.int sq), some (.ref ln), some (.ref lo), some (.ref lg), some (.ref lu), some (.ref lw), some (.ref pw), v14, some (.ref d)] ∧ DevIn T.A_Device H' Hx d m ∧ m.lay = p ∧ m.left = none ∧ m.wait.length ≤ i ∧ (m.shown.length : Int) = L.dev ∧ m.off = false ∧ ∀ k, k < i → m.shown[A + k]? = gs[k]?) ?_ ?_ ?_
          · exact ⟨_, _, rfl, hD3, rfl, rfl, Nat.le_refl _, lx, rfl, fun k hk => absurd hk (Nat.not_lt_zero k)⟩
          · rintro i σ' Hx hi ⟨v14, m, rfl, hDx, e1, e2, e3, e4, e5, e6⟩
            have hin : i < n := by omega
            have ggx := hDx.same _ _ (sH _ _ gg8)
            obtain ⟨g1, hg1⟩ : ∃ v, gs[i]? = some v := ⟨_, List.getElem?_eq_getElem (by omega)⟩
            obtain ⟨_, _, dxd, fsd, su, sh, un, uns, hd1, hd2, _⟩ := id hDx
            have nW := hd2.nW
            walk_at "go"
            rw [Int.zero_add]
            refine r_ixl (.of ggx) (atI_nat hg1) ?_
            walk_at "go"
            rw [hA]
            refine ⟨H', d, m, _, _, rfl, hDx, by omega, fun Hy hDy kY => ?_⟩
            have et : takeF m = m := by unfold takeF; rw [e2]
            have es : (writeF m ((A : Int) + (i : Int)) g1).shown = m.shown.set (A + i) g1 := by
              show putB m.shown _ g1 = _
              unfold putB
              rw [if_pos ⟨by omega, by omega⟩, show ((A : Int) + (i : Int)).toNat = A + i by omega]
            have ew : (writeF m ((A : Int) + (i : Int)) g1).wait = m.wait ++ [((A : Int) + (i : Int), g1)] := by
              show (if (takeF m).off then m.wait else m.wait ++ [_]) = _
              rw [et, e5, if_neg (by decide)]
            refine ⟨_, _, rfl, hDy, ?_, ?_, ?_, ?_, ?_, fun k hk => ?_⟩
            · show (takeF m).lay = p
              rw [et, e1]
            · show (takeF m).left = none
              rw [et, e2]
            · rw [ew, List.length_append]
              show m.wait.length + 1 ≤ _
              omega
            · rw [es, List.length_set]; exact e4
            · show (takeF m).off = false
              rw [et, e5]
            · rw [es]
              rcases Nat.lt_or_ge k i with h | h
              · rw [List.getElem?_set_ne (by omega)]
                exact e6 k h
              · have e : k = i := by omega
                subst e
                rw [List.getElem?_set_self (by omega)]
                exact hg1.symm
          · rintro σ' Hx ⟨v14, m, rfl, hDx, e1, e2, e3, e4, e5, e6⟩
            rw [show L.reg.toNat = n by omega] at e6
            walk_at "go"
            refine ⟨_, _, rfl, hDx, e1, fun r hr => ?_⟩
            unfold readF
            rw [hA, if_pos ⟨by omega, by omega⟩, show ((A : Int) + (r : Int)).toNat = A + r by omega, List.getD_eq_getElem?_getD, e6 r hr, ← List.getD_eq_getElem?_getD]
            exact pats_get (pats_keeps (Keeps.of (sH.trans hDx.same)) hgs8) (by omega)
      · rintro _ Hx ⟨v14, m, rfl, hDx, em, hfx⟩
        have gNx := (sH.trans hDx.same) _ _ gN8
        have hLx := hL'.mono hDx.same
        rw [← em] at hLx
        have cX : CkIn K T.A_Device T.A_Layout H' Hx d m L rg l n (fun k => (partsI c N sq n).getD k none) :=
          ⟨hDx, hLx, by omega, by omega, el, by omega, by omega, k11, k12, en, by omega, n1, hfx, parts_body c1 nN, fun s _ => by rw [parts_all lN']; omega⟩
        walk_at "go"
        refine i_law_holds (f := fun k => (partsI c N sq n).getD k none) rfl cX parts_good (by rw [parts_all lN']; exact okN) (by rw [parts_all lN']; exact .of gNx) (fun H2 s2 => ?_)
        exact q _
end
theorem all_mk {l : PySem.W.OpenLaw} {w : World} {K : PySem.W.Frag} {h : Heap} {mg : Str → Option Value} {fa C_Layout C_Device f_Layout___init f_region_start f_parts_of f_read_numbers f_checkpoint_in f_Device___init f_Device_read f_Device_write f_Device_pending f_Device__takes_place f_put_block f_law_row f_law_digits f_law_layout f_law_table f_law_numbers f_law_parts f_law_spoilt f_law_holds f_law k_BLOCK_SIZES dT_Device___init : Addr} (X : K.In h) (G : h.Ns mainGlobals mg) (hfa : mg "law" = some (.ref fa))
    {od_Layout___init an_Layout___init od_region_start an_region_start od_parts_of an_parts_of od_read_numbers an_read_numbers od_checkpoint_in an_checkpoint_in od_Device___init an_Device___init od_Device_read an_Device_read od_Device_write an_Device_write od_Device_pending an_Device_pending od_Device__takes_place an_Device__takes_place od_put_block an_put_block od_law_row an_law_row od_law_digits an_law_digits od_law_layout an_law_layout od_law_table an_law_table od_law_numbers an_law_numbers od_law_parts an_law_parts od_law_spoilt an_law_spoilt od_law_holds an_law_holds od_law an_law : Option Addr} {sl_Layout___init sl_region_start sl_parts_of sl_read_numbers sl_checkpoint_in sl_Device___init sl_Device_read sl_Device_write sl_Device_pending sl_Device__takes_place sl_put_block sl_law_row sl_law_digits sl_law_layout sl_law_table sl_law_numbers sl_law_parts sl_law_spoilt sl_law_holds sl_law : Array (Option Value)} {oc_Layout___init kV_Layout___init dc_Layout___init pm_Layout___init cd_Layout___init ct_Layout___init oc_region_start kV_region_start dc_region_start pm_region_start cd_region_start ct_region_start oc_parts_of kV_parts_of dc_parts_of pm_parts_of cd_parts_of ct_parts_of oc_read_numbers kV_read_numbers dc_read_numbers pm_read_numbers cd_read_numbers ct_read_numbers oc_checkpoint_in kV_checkpoint_in dc_checkpoint_in pm_checkpoint_in cd_checkpoint_in ct_checkpoint_in oc_Device___init kV_Device___init dc_Device___init pm_Device___init cd_Device___init ct_Device___init oc_Device_read kV_Device_read dc_Device_read pm_Device_read cd_Device_read ct_Device_read oc_Device_write kV_Device_write dc_Device_write pm_Device_write cd_Device_write ct_Device_write oc_Device_pending kV_Device_pending dc_Device_pending pm_Device_pending cd_Device_pending ct_Device_pending oc_Device__takes_place kV_Device__takes_place dc_Device__takes_place pm_Device__takes_place cd_Device__takes_place ct_Device__takes_place oc_put_block kV_put_block dc_put_block pm_put_block cd_put_block ct_put_block oc_law_row kV_law_row dc_law_row pm_law_row cd_law_row ct_law_row oc_law_digits kV_law_digits dc_law_digits pm_law_digits cd_law_digits ct_law_digits oc_law_layout kV_law_layout dc_law_layout pm_law_layout cd_law_layout ct_law_layout oc_law_table kV_law_table dc_law_table pm_law_table cd_law_table ct_law_table oc_law_numbers kV_law_numbers dc_law_numbers pm_law_numbers cd_law_numbers ct_law_numbers oc_law_parts kV_law_parts dc_law_parts pm_law_parts cd_law_parts ct_law_parts oc_law_spoilt kV_law_spoilt dc_law_spoilt pm_law_spoilt cd_law_spoilt ct_law_spoilt oc_law_holds kV_law_holds dc_law_holds pm_law_holds cd_law_holds ct_law_holds oc_law kV_law dc_law pm_law cd_law ct_law : Value}
    {dd_Device___init : Option Addr} {dn_Device___init : Nat} {dsl_Device___init : Array (Option Value)}
    {t_PART t_SLOTS t_SUMMARY_HEAD yt_BLOCK_SIZES_0 yt_BLOCK_SIZES_1 yt_BLOCK_SIZES_2 : Tok}
    {yd_BLOCK_SIZES : Option Addr} {yn_BLOCK_SIZES : Nat} {ys_BLOCK_SIZES : Array (Option Value)}
    (mC_Layout : PySem.W.nsIn K mainGlobals "Layout" = some (some (.ref C_Layout)))
    (pg_Layout : PySem.W.plainGet K C_Layout Str.empty = true)
    (hd_Layout : PySem.W.hasDictIn K C_Layout = true)
    (po_Layout : PySem.W.plainOver K C_Layout = true)
    (sa_Layout : PySem.W.findIn K (.ref C_Layout) "__setattr__" = some (some (.builtin "object.__setattr__")))
    (mk_Layout : PySem.W.makesIn K C_Layout = true)
    (kc_Layout : PySem.W.keepIn K (.ref C_Layout) = true)
    (na_Layout_segments : PySem.W.findIn K (.ref C_Layout) "segments" = some none)
    (na_Layout_segment_blocks : PySem.W.findIn K (.ref C_Layout) "segment_blocks" = some none)
    (na_Layout_block_size : PySem.W.findIn K (.ref C_Layout) "block_size" = some none)
    (na_Layout_payload : PySem.W.findIn K (.ref C_Layout) "payload" = some none)
    (na_Layout_limit : PySem.W.findIn K (.ref C_Layout) "limit" = some none)
    (na_Layout_last_id : PySem.W.findIn K (.ref C_Layout) "last_id" = some none)
    (na_Layout_fan : PySem.W.findIn K (.ref C_Layout) "fan" = some none)
    (na_Layout_region_blocks : PySem.W.findIn K (.ref C_Layout) "region_blocks" = some none)
    (na_Layout_device_blocks : PySem.W.findIn K (.ref C_Layout) "device_blocks" = some none)
    (mC_Device : PySem.W.nsIn K mainGlobals "Device" = some (some (.ref C_Device)))
    (pg_Device : PySem.W.plainGet K C_Device Str.empty = true)
    (hd_Device : PySem.W.hasDictIn K C_Device = true)
    (po_Device : PySem.W.plainOver K C_Device = true)
    (sa_Device : PySem.W.findIn K (.ref C_Device) "__setattr__" = some (some (.builtin "object.__setattr__")))
    (mk_Device : PySem.W.makesIn K C_Device = true)
    (kc_Device : PySem.W.keepIn K (.ref C_Device) = true)
    (na_Device_layout : PySem.W.findIn K (.ref C_Device) "layout" = some none)
    (na_Device__sure : PySem.W.findIn K (.ref C_Device) "_sure" = some none)
    (na_Device__shown : PySem.W.findIn K (.ref C_Device) "_shown" = some none)
    (na_Device__unsure : PySem.W.findIn K (.ref C_Device) "_unsure" = some none)
    (na_Device__commands_left : PySem.W.findIn K (.ref C_Device) "_commands_left" = some none)
    (na_Device__power_is_off : PySem.W.findIn K (.ref C_Device) "_power_is_off" = some none)
    (a_Layout___init : PySem.W.findIn K (.ref C_Layout) "__init__" = some (some (.ref f_Layout___init)))
    (i_Layout___init : PySem.W.isFn K (.ref f_Layout___init) = true)
    (l_Layout___init : K.lookup f_Layout___init = some ⟨oc_Layout___init, od_Layout___init, .func (PySem.W.fnOf "__init__" "Layout.__init__" (defArgs s_Layout___init) (defBody s_Layout___init) (defScope s_Layout___init) .none kV_Layout___init dc_Layout___init pm_Layout___init an_Layout___init cd_Layout___init ct_Layout___init), sl_Layout___init⟩)
    (c_Layout___init : PySem.W.codeIn K cd_Layout___init "Layout.__init__" = true)
    (k_Layout___init : PySem.W.keepIn K (.ref f_Layout___init) = true)
    (a_region_start : PySem.W.nsIn K mainGlobals "region_start" = some (some (.ref f_region_start)))
    (l_region_start : K.lookup f_region_start = some ⟨oc_region_start, od_region_start, .func (PySem.W.fnOf "region_start" "region_start" (defArgs s_region_start) (defBody s_region_start) (defScope s_region_start) .none kV_region_start dc_region_start pm_region_start an_region_start cd_region_start ct_region_start), sl_region_start⟩)
    (c_region_start : PySem.W.codeIn K cd_region_start "region_start" = true)
    (k_region_start : PySem.W.keepIn K (.ref f_region_start) = true)
    (a_parts_of : PySem.W.nsIn K mainGlobals "parts_of" = some (some (.ref f_parts_of)))
    (l_parts_of : K.lookup f_parts_of = some ⟨oc_parts_of, od_parts_of, .func (PySem.W.fnOf "parts_of" "parts_of" (defArgs s_parts_of) (defBody s_parts_of) (defScope s_parts_of) .none kV_parts_of dc_parts_of pm_parts_of an_parts_of cd_parts_of ct_parts_of), sl_parts_of⟩)
    (c_parts_of : PySem.W.codeIn K cd_parts_of "parts_of" = true)
    (k_parts_of : PySem.W.keepIn K (.ref f_parts_of) = true)
    (a_read_numbers : PySem.W.nsIn K mainGlobals "read_numbers" = some (some (.ref f_read_numbers)))
    (l_read_numbers : K.lookup f_read_numbers = some ⟨oc_read_numbers, od_read_numbers, .func (PySem.W.fnOf "read_numbers" "read_numbers" (defArgs s_read_numbers) (defBody s_read_numbers) (defScope s_read_numbers) .none kV_read_numbers dc_read_numbers pm_read_numbers an_read_numbers cd_read_numbers ct_read_numbers), sl_read_numbers⟩)
    (c_read_numbers : PySem.W.codeIn K cd_read_numbers "read_numbers" = true)
    (k_read_numbers : PySem.W.keepIn K (.ref f_read_numbers) = true)
    (a_checkpoint_in : PySem.W.nsIn K mainGlobals "checkpoint_in" = some (some (.ref f_checkpoint_in)))
    (l_checkpoint_in : K.lookup f_checkpoint_in = some ⟨oc_checkpoint_in, od_checkpoint_in, .func (PySem.W.fnOf "checkpoint_in" "checkpoint_in" (defArgs s_checkpoint_in) (defBody s_checkpoint_in) (defScope s_checkpoint_in) .none kV_checkpoint_in dc_checkpoint_in pm_checkpoint_in an_checkpoint_in cd_checkpoint_in ct_checkpoint_in), sl_checkpoint_in⟩)
    (c_checkpoint_in : PySem.W.codeIn K cd_checkpoint_in "checkpoint_in" = true)
    (k_checkpoint_in : PySem.W.keepIn K (.ref f_checkpoint_in) = true)
    (a_Device___init : PySem.W.findIn K (.ref C_Device) "__init__" = some (some (.ref f_Device___init)))
    (i_Device___init : PySem.W.isFn K (.ref f_Device___init) = true)
    (l_Device___init : K.lookup f_Device___init = some ⟨oc_Device___init, od_Device___init, .func (PySem.W.fnOf "__init__" "Device.__init__" (defArgs s_Device___init) (defBody s_Device___init) (defScope s_Device___init) (.ref dT_Device___init) kV_Device___init dc_Device___init pm_Device___init an_Device___init cd_Device___init ct_Device___init), sl_Device___init⟩)
    (dl_Device___init : K.lookup dT_Device___init = some ⟨.type "tuple", dd_Device___init, .seq #[Value.none] dn_Device___init, dsl_Device___init⟩)
    (c_Device___init : PySem.W.codeIn K cd_Device___init "Device.__init__" = true)
    (k_Device___init : PySem.W.keepIn K (.ref f_Device___init) = true)
    (a_Device_read : PySem.W.findIn K (.ref C_Device) "read" = some (some (.ref f_Device_read)))
    (i_Device_read : PySem.W.isFn K (.ref f_Device_read) = true)
    (l_Device_read : K.lookup f_Device_read = some ⟨oc_Device_read, od_Device_read, .func (PySem.W.fnOf "read" "Device.read" (defArgs s_Device_read) (defBody s_Device_read) (defScope s_Device_read) .none kV_Device_read dc_Device_read pm_Device_read an_Device_read cd_Device_read ct_Device_read), sl_Device_read⟩)
    (c_Device_read : PySem.W.codeIn K cd_Device_read "Device.read" = true)
    (k_Device_read : PySem.W.keepIn K (.ref f_Device_read) = true)
    (a_Device_write : PySem.W.findIn K (.ref C_Device) "write" = some (some (.ref f_Device_write)))
    (i_Device_write : PySem.W.isFn K (.ref f_Device_write) = true)
    (l_Device_write : K.lookup f_Device_write = some ⟨oc_Device_write, od_Device_write, .func (PySem.W.fnOf "write" "Device.write" (defArgs s_Device_write) (defBody s_Device_write) (defScope s_Device_write) .none kV_Device_write dc_Device_write pm_Device_write an_Device_write cd_Device_write ct_Device_write), sl_Device_write⟩)
    (c_Device_write : PySem.W.codeIn K cd_Device_write "Device.write" = true)
    (k_Device_write : PySem.W.keepIn K (.ref f_Device_write) = true)
    (a_Device_pending : PySem.W.findIn K (.ref C_Device) "pending" = some (some (.ref f_Device_pending)))
    (i_Device_pending : PySem.W.isFn K (.ref f_Device_pending) = true)
    (l_Device_pending : K.lookup f_Device_pending = some ⟨oc_Device_pending, od_Device_pending, .func (PySem.W.fnOf "pending" "Device.pending" (defArgs s_Device_pending) (defBody s_Device_pending) (defScope s_Device_pending) .none kV_Device_pending dc_Device_pending pm_Device_pending an_Device_pending cd_Device_pending ct_Device_pending), sl_Device_pending⟩)
    (c_Device_pending : PySem.W.codeIn K cd_Device_pending "Device.pending" = true)
    (k_Device_pending : PySem.W.keepIn K (.ref f_Device_pending) = true)
    (a_Device__takes_place : PySem.W.findIn K (.ref C_Device) "_takes_place" = some (some (.ref f_Device__takes_place)))
    (i_Device__takes_place : PySem.W.isFn K (.ref f_Device__takes_place) = true)
    (l_Device__takes_place : K.lookup f_Device__takes_place = some ⟨oc_Device__takes_place, od_Device__takes_place, .func (PySem.W.fnOf "_takes_place" "Device._takes_place" (defArgs s_Device__takes_place) (defBody s_Device__takes_place) (defScope s_Device__takes_place) .none kV_Device__takes_place dc_Device__takes_place pm_Device__takes_place an_Device__takes_place cd_Device__takes_place ct_Device__takes_place), sl_Device__takes_place⟩)
    (c_Device__takes_place : PySem.W.codeIn K cd_Device__takes_place "Device._takes_place" = true)
    (k_Device__takes_place : PySem.W.keepIn K (.ref f_Device__takes_place) = true)
    (a_put_block : PySem.W.nsIn K mainGlobals "_put_block" = some (some (.ref f_put_block)))
    (l_put_block : K.lookup f_put_block = some ⟨oc_put_block, od_put_block, .func (PySem.W.fnOf "_put_block" "_put_block" (defArgs s_put_block) (defBody s_put_block) (defScope s_put_block) .none kV_put_block dc_put_block pm_put_block an_put_block cd_put_block ct_put_block), sl_put_block⟩)
    (c_put_block : PySem.W.codeIn K cd_put_block "_put_block" = true)
    (k_put_block : PySem.W.keepIn K (.ref f_put_block) = true)
    (a_law_row : PySem.W.nsIn K mainGlobals "_law_row" = some (some (.ref f_law_row)))
    (l_law_row : K.lookup f_law_row = some ⟨oc_law_row, od_law_row, .func (PySem.W.fnOf "_law_row" "_law_row" (defArgs s_law_row) (defBody s_law_row) (defScope s_law_row) .none kV_law_row dc_law_row pm_law_row an_law_row cd_law_row ct_law_row), sl_law_row⟩)
    (c_law_row : PySem.W.codeIn K cd_law_row "_law_row" = true)
    (k_law_row : PySem.W.keepIn K (.ref f_law_row) = true)
    (a_law_digits : PySem.W.nsIn K mainGlobals "_law_digits" = some (some (.ref f_law_digits)))
    (l_law_digits : K.lookup f_law_digits = some ⟨oc_law_digits, od_law_digits, .func (PySem.W.fnOf "_law_digits" "_law_digits" (defArgs s_law_digits) (defBody s_law_digits) (defScope s_law_digits) .none kV_law_digits dc_law_digits pm_law_digits an_law_digits cd_law_digits ct_law_digits), sl_law_digits⟩)
    (c_law_digits : PySem.W.codeIn K cd_law_digits "_law_digits" = true)
    (k_law_digits : PySem.W.keepIn K (.ref f_law_digits) = true)
    (a_law_layout : PySem.W.nsIn K mainGlobals "_law_layout" = some (some (.ref f_law_layout)))
    (l_law_layout : K.lookup f_law_layout = some ⟨oc_law_layout, od_law_layout, .func (PySem.W.fnOf "_law_layout" "_law_layout" (defArgs s_law_layout) (defBody s_law_layout) (defScope s_law_layout) .none kV_law_layout dc_law_layout pm_law_layout an_law_layout cd_law_layout ct_law_layout), sl_law_layout⟩)
    (c_law_layout : PySem.W.codeIn K cd_law_layout "_law_layout" = true)
    (k_law_layout : PySem.W.keepIn K (.ref f_law_layout) = true)
    (a_law_table : PySem.W.nsIn K mainGlobals "_law_table" = some (some (.ref f_law_table)))
    (l_law_table : K.lookup f_law_table = some ⟨oc_law_table, od_law_table, .func (PySem.W.fnOf "_law_table" "_law_table" (defArgs s_law_table) (defBody s_law_table) (defScope s_law_table) .none kV_law_table dc_law_table pm_law_table an_law_table cd_law_table ct_law_table), sl_law_table⟩)
    (c_law_table : PySem.W.codeIn K cd_law_table "_law_table" = true)
    (k_law_table : PySem.W.keepIn K (.ref f_law_table) = true)
    (a_law_numbers : PySem.W.nsIn K mainGlobals "_law_numbers" = some (some (.ref f_law_numbers)))
    (l_law_numbers : K.lookup f_law_numbers = some ⟨oc_law_numbers, od_law_numbers, .func (PySem.W.fnOf "_law_numbers" "_law_numbers" (defArgs s_law_numbers) (defBody s_law_numbers) (defScope s_law_numbers) .none kV_law_numbers dc_law_numbers pm_law_numbers an_law_numbers cd_law_numbers ct_law_numbers), sl_law_numbers⟩)
    (c_law_numbers : PySem.W.codeIn K cd_law_numbers "_law_numbers" = true)
    (k_law_numbers : PySem.W.keepIn K (.ref f_law_numbers) = true)
    (a_law_parts : PySem.W.nsIn K mainGlobals "_law_parts" = some (some (.ref f_law_parts)))
    (l_law_parts : K.lookup f_law_parts = some ⟨oc_law_parts, od_law_parts, .func (PySem.W.fnOf "_law_parts" "_law_parts" (defArgs s_law_parts) (defBody s_law_parts) (defScope s_law_parts) .none kV_law_parts dc_law_parts pm_law_parts an_law_parts cd_law_parts ct_law_parts), sl_law_parts⟩)
    (c_law_parts : PySem.W.codeIn K cd_law_parts "_law_parts" = true)
    (k_law_parts : PySem.W.keepIn K (.ref f_law_parts) = true)
    (a_law_spoilt : PySem.W.nsIn K mainGlobals "_law_spoilt" = some (some (.ref f_law_spoilt)))
    (l_law_spoilt : K.lookup f_law_spoilt = some ⟨oc_law_spoilt, od_law_spoilt, .func (PySem.W.fnOf "_law_spoilt" "_law_spoilt" (defArgs s_law_spoilt) (defBody s_law_spoilt) (defScope s_law_spoilt) .none kV_law_spoilt dc_law_spoilt pm_law_spoilt an_law_spoilt cd_law_spoilt ct_law_spoilt), sl_law_spoilt⟩)
    (c_law_spoilt : PySem.W.codeIn K cd_law_spoilt "_law_spoilt" = true)
    (k_law_spoilt : PySem.W.keepIn K (.ref f_law_spoilt) = true)
    (a_law_holds : PySem.W.nsIn K mainGlobals "_law_holds" = some (some (.ref f_law_holds)))
    (l_law_holds : K.lookup f_law_holds = some ⟨oc_law_holds, od_law_holds, .func (PySem.W.fnOf "_law_holds" "_law_holds" (defArgs s_law_holds) (defBody s_law_holds) (defScope s_law_holds) .none kV_law_holds dc_law_holds pm_law_holds an_law_holds cd_law_holds ct_law_holds), sl_law_holds⟩)
    (c_law_holds : PySem.W.codeIn K cd_law_holds "_law_holds" = true)
    (k_law_holds : PySem.W.keepIn K (.ref f_law_holds) = true)
    (a_law : PySem.W.nsIn K mainGlobals "law" = some (some (.ref f_law)))
    (l_law : K.lookup f_law = some ⟨oc_law, od_law, .func (PySem.W.fnOf "law" "law" (defArgs s_law) (defBody s_law) (defScope s_law) .none kV_law dc_law pm_law an_law cd_law ct_law), sl_law⟩)
    (c_law : PySem.W.codeIn K cd_law "law" = true)
    (k_law : PySem.W.keepIn K (.ref f_law) = true)
    (q_BLOCK_SIZES : PySem.W.nsIn K mainGlobals "BLOCK_SIZES" = some (some (.ref k_BLOCK_SIZES)))
    (y_BLOCK_SIZES : K.lookup k_BLOCK_SIZES = some ⟨.type "tuple", yd_BLOCK_SIZES, .seq #[.int 64 yt_BLOCK_SIZES_0, .int 128 yt_BLOCK_SIZES_1, .int 256 yt_BLOCK_SIZES_2] yn_BLOCK_SIZES, ys_BLOCK_SIZES⟩)
    (q_PART : PySem.W.nsIn K mainGlobals "PART" = some (some (.int 5 t_PART)))
    (q_SLOTS : PySem.W.nsIn K mainGlobals "SLOTS" = some (some (.int 3 t_SLOTS)))
    (q_SUMMARY_HEAD : PySem.W.nsIn K mainGlobals "SUMMARY_HEAD" = some (some (.int 16 t_SUMMARY_HEAD)))
    (n_any : PySem.W.nsIn K mainGlobals "any" = some none)
    (n_bool : PySem.W.nsIn K mainGlobals "bool" = some none)
    (n_int : PySem.W.nsIn K mainGlobals "int" = some none)
    (n_isinstance : PySem.W.nsIn K mainGlobals "isinstance" = some none)
    (n_len : PySem.W.nsIn K mainGlobals "len" = some none)
    (n_list : PySem.W.nsIn K mainGlobals "list" = some none)
    (n_range : PySem.W.nsIn K mainGlobals "range" = some none)
    (n_tuple : PySem.W.nsIn K mainGlobals "tuple" = some none)
    : ∃ fd : FuncData, (∀ (s : Shared) (v : Value), BindsTo s fd ⟨[v], []⟩ [("script", v)]) ∧ ∀ base : Heap, K.In base → base.Ns mainGlobals mg → FnOk l.prog w K mg base CX0 5 fa fd ["script"] (spLawK K) := by
  have e := hfa.symm.trans (PySem.W.mg_of X G a_law)
  cases e
  have F_Layout___init := fun_mk (st := s_Layout___init) l_Layout___init c_Layout___init k_Layout___init
  have b_Layout___init := F_Layout___init.binds (ps := ["self", "segments", "segment_blocks", "block_size"]) fun _ _ _ _ _ _ us hl => match us, hl with | [_, _, _, _], _ => rfl
  have F_region_start := fun_mk (st := s_region_start) l_region_start c_region_start k_region_start
  have b_region_start := F_region_start.binds (ps := ["layout", "region"]) fun _ _ _ _ _ _ us hl => match us, hl with | [_, _], _ => rfl
  have F_parts_of := fun_mk (st := s_parts_of) l_parts_of c_parts_of k_parts_of
  have b_parts_of := F_parts_of.binds (ps := ["number", "size"]) fun _ _ _ _ _ _ us hl => match us, hl with | [_, _], _ => rfl
  have F_read_numbers := fun_mk (st := s_read_numbers) l_read_numbers c_read_numbers k_read_numbers
  have b_read_numbers := F_read_numbers.binds (ps := ["layout", "numbers"]) fun _ _ _ _ _ _ us hl => match us, hl with | [_, _], _ => rfl
  have F_checkpoint_in := fun_mk (st := s_checkpoint_in) l_checkpoint_in c_checkpoint_in k_checkpoint_in
  have b_checkpoint_in := F_checkpoint_in.binds (ps := ["device", "region"]) fun _ _ _ _ _ _ us hl => match us, hl with | [_, _], _ => rfl
  have F_Device___init : FunD K "__init__" "Device.__init__" (defArgs s_Device___init) (defBody s_Device___init) (defScope s_Device___init) [V.non] [] f_Device___init _ := ⟨⟨_, _, _, _, _, _, _, _, _, _, rfl, l_Device___init, c_Device___init, .inr ⟨by simp, _, _, _, _, rfl, dl_Device___init, rfl, (.cons rfl .nil)⟩, .inl rfl⟩, k_Device___init⟩
  obtain ⟨ds_Device___init_3, v_Device___init_3, b_Device___init_3⟩ := F_Device___init.binds1 (ps := ["self", "layout", "blocks"]) 3 1 (by simp) rfl fun _ _ _ _ _ _ _ us its hl hi => match us, its, hl, hi with | [_, _, _], [_], _, _ => ⟨_, rfl, rfl⟩
  cases v_Device___init_3
  have F_Device_read := fun_mk (st := s_Device_read) l_Device_read c_Device_read k_Device_read
  have b_Device_read := F_Device_read.binds (ps := ["self", "address"]) fun _ _ _ _ _ _ us hl => match us, hl with | [_, _], _ => rfl
  have F_Device_write := fun_mk (st := s_Device_write) l_Device_write c_Device_write k_Device_write
  have b_Device_write := F_Device_write.binds (ps := ["self", "address", "block"]) fun _ _ _ _ _ _ us hl => match us, hl with | [_, _, _], _ => rfl
  have F_Device_pending := fun_mk (st := s_Device_pending) l_Device_pending c_Device_pending k_Device_pending
  have b_Device_pending := F_Device_pending.binds (ps := ["self"]) fun _ _ _ _ _ _ us hl => match us, hl with | [_], _ => rfl
  have F_Device__takes_place := fun_mk (st := s_Device__takes_place) l_Device__takes_place c_Device__takes_place k_Device__takes_place
  have b_Device__takes_place := F_Device__takes_place.binds (ps := ["self"]) fun _ _ _ _ _ _ us hl => match us, hl with | [_], _ => rfl
  have F_put_block := fun_mk (st := s_put_block) l_put_block c_put_block k_put_block
  have b_put_block := F_put_block.binds (ps := ["blocks", "address", "block"]) fun _ _ _ _ _ _ us hl => match us, hl with | [_, _, _], _ => rfl
  have F_law_row := fun_mk (st := s_law_row) l_law_row c_law_row k_law_row
  have b_law_row := F_law_row.binds (ps := ["script", "k"]) fun _ _ _ _ _ _ us hl => match us, hl with | [_, _], _ => rfl
  have F_law_digits := fun_mk (st := s_law_digits) l_law_digits c_law_digits k_law_digits
  have b_law_digits := F_law_digits.binds (ps := ["row", "sizes"]) fun _ _ _ _ _ _ us hl => match us, hl with | [_, _], _ => rfl
  have F_law_layout := fun_mk (st := s_law_layout) l_law_layout c_law_layout k_law_layout
  have b_law_layout := F_law_layout.binds (ps := ["row"]) fun _ _ _ _ _ _ us hl => match us, hl with | [_], _ => rfl
  have F_law_table := fun_mk (st := s_law_table) l_law_table c_law_table k_law_table
  have b_law_table := F_law_table.binds (ps := ["layout", "row", "most"]) fun _ _ _ _ _ _ us hl => match us, hl with | [_, _, _], _ => rfl
  have F_law_numbers := fun_mk (st := s_law_numbers) l_law_numbers c_law_numbers k_law_numbers
  have b_law_numbers := F_law_numbers.binds (ps := ["layout", "script", "at"]) fun _ _ _ _ _ _ us hl => match us, hl with | [_, _, _], _ => rfl
  have F_law_parts := fun_mk (st := s_law_parts) l_law_parts c_law_parts k_law_parts
  have b_law_parts := F_law_parts.binds (ps := ["layout", "numbers", "sequence"]) fun _ _ _ _ _ _ us hl => match us, hl with | [_, _, _], _ => rfl
  have F_law_spoilt := fun_mk (st := s_law_spoilt) l_law_spoilt c_law_spoilt k_law_spoilt
  have b_law_spoilt := F_law_spoilt.binds (ps := ["layout", "parts", "numbers", "fault", "at", "change"]) fun _ _ _ _ _ _ us hl => match us, hl with | [_, _, _, _, _, _], _ => rfl
  have F_law_holds := fun_mk (st := s_law_holds) l_law_holds c_law_holds k_law_holds
  have b_law_holds := F_law_holds.binds (ps := ["device", "region", "sequence", "numbers"]) fun _ _ _ _ _ _ us hl => match us, hl with | [_, _, _, _], _ => rfl
  have F_law := fun_mk (st := s_law) l_law c_law k_law
  have b_law := F_law.binds (ps := ["script"]) fun _ _ _ _ _ _ us hl => match us, hl with | [_], _ => rfl
  let T : Txt K mg := {
    a_Layout___init := f_Layout___init,
    fd_Layout___init := _,
    F_Layout___init := F_Layout___init,
    b_Layout___init := b_Layout___init,
    a_region_start := f_region_start,
    fd_region_start := _,
    F_region_start := F_region_start,
    b_region_start := b_region_start,
    m_region_start := PySem.W.mg_of X G a_region_start,
    a_parts_of := f_parts_of,
    fd_parts_of := _,
    F_parts_of := F_parts_of,
    b_parts_of := b_parts_of,
    m_parts_of := PySem.W.mg_of X G a_parts_of,
    a_read_numbers := f_read_numbers,
    fd_read_numbers := _,
    F_read_numbers := F_read_numbers,
    b_read_numbers := b_read_numbers,
    m_read_numbers := PySem.W.mg_of X G a_read_numbers,
    a_checkpoint_in := f_checkpoint_in,
    fd_checkpoint_in := _,
    F_checkpoint_in := F_checkpoint_in,
    b_checkpoint_in := b_checkpoint_in,
    m_checkpoint_in := PySem.W.mg_of X G a_checkpoint_in,
    a_Device___init := f_Device___init,
    fd_Device___init := _,
    F_Device___init := F_Device___init,
    b_Device___init := b_Device___init_3,
    a_Device_read := f_Device_read,
    fd_Device_read := _,
    F_Device_read := F_Device_read,
    b_Device_read := b_Device_read,
    me_Device_read := ⟨a_Device_read, i_Device_read, k_Device_read⟩,
    a_Device_write := f_Device_write,
    fd_Device_write := _,
    F_Device_write := F_Device_write,
    b_Device_write := b_Device_write,
    me_Device_write := ⟨a_Device_write, i_Device_write, k_Device_write⟩,
    a_Device_pending := f_Device_pending,
    fd_Device_pending := _,
    F_Device_pending := F_Device_pending,
    b_Device_pending := b_Device_pending,
    me_Device_pending := ⟨a_Device_pending, i_Device_pending, k_Device_pending⟩,
    a_Device__takes_place := f_Device__takes_place,
    fd_Device__takes_place := _,
    F_Device__takes_place := F_Device__takes_place,
    b_Device__takes_place := b_Device__takes_place,
    me_Device__takes_place := ⟨a_Device__takes_place, i_Device__takes_place, k_Device__takes_place⟩,
    a_put_block := f_put_block,
    fd_put_block := _,
    F_put_block := F_put_block,
    b_put_block := b_put_block,
    m_put_block := PySem.W.mg_of X G a_put_block,
    a_law_row := f_law_row,
    fd_law_row := _,
    F_law_row := F_law_row,
    b_law_row := b_law_row,
    m_law_row := PySem.W.mg_of X G a_law_row,
    a_law_digits := f_law_digits,
    fd_law_digits := _,
    F_law_digits := F_law_digits,
    b_law_digits := b_law_digits,
    m_law_digits := PySem.W.mg_of X G a_law_digits,
    a_law_layout := f_law_layout,
    fd_law_layout := _,
    F_law_layout := F_law_layout,
    b_law_layout := b_law_layout,
    m_law_layout := PySem.W.mg_of X G a_law_layout,
    a_law_table := f_law_table,
    fd_law_table := _,
    F_law_table := F_law_table,
    b_law_table := b_law_table,
    m_law_table := PySem.W.mg_of X G a_law_table,
    a_law_numbers := f_law_numbers,
    fd_law_numbers := _,
    F_law_numbers := F_law_numbers,
    b_law_numbers := b_law_numbers,
    m_law_numbers := PySem.W.mg_of X G a_law_numbers,
    a_law_parts := f_law_parts,
    fd_law_parts := _,
    F_law_parts := F_law_parts,
    b_law_parts := b_law_parts,
    m_law_parts := PySem.W.mg_of X G a_law_parts,
    a_law_spoilt := f_law_spoilt,
    fd_law_spoilt := _,
    F_law_spoilt := F_law_spoilt,
    b_law_spoilt := b_law_spoilt,
    m_law_spoilt := PySem.W.mg_of X G a_law_spoilt,
    a_law_holds := f_law_holds,
    fd_law_holds := _,
    F_law_holds := F_law_holds,
    b_law_holds := b_law_holds,
    m_law_holds := PySem.W.mg_of X G a_law_holds,
    a_law := fa,
    fd_law := _,
    F_law := F_law,
    b_law := b_law,
    m_law := PySem.W.mg_of X G a_law,
    A_Layout := C_Layout,
    m_Layout := PySem.W.mg_of X G mC_Layout,
    cl_Layout := ⟨pg_Layout, hd_Layout, po_Layout, sa_Layout⟩,
    M_Layout := ⟨mk_Layout, a_Layout___init, i_Layout___init, kc_Layout⟩,
    na_Layout_segments := na_Layout_segments,
    na_Layout_segment_blocks := na_Layout_segment_blocks,
    na_Layout_block_size := na_Layout_block_size,
    na_Layout_payload := na_Layout_payload,
    na_Layout_limit := na_Layout_limit,
    na_Layout_last_id := na_Layout_last_id,
    na_Layout_fan := na_Layout_fan,
    na_Layout_region_blocks := na_Layout_region_blocks,
    na_Layout_device_blocks := na_Layout_device_blocks,
    A_Device := C_Device,
    m_Device := PySem.W.mg_of X G mC_Device,
    cl_Device := ⟨pg_Device, hd_Device, po_Device, sa_Device⟩,
    M_Device := ⟨mk_Device, a_Device___init, i_Device___init, kc_Device⟩,
    na_Device_layout := na_Device_layout,
    na_Device__sure := na_Device__sure,
    na_Device__shown := na_Device__shown,
    na_Device__unsure := na_Device__unsure,
    na_Device__commands_left := na_Device__commands_left,
    na_Device__power_is_off := na_Device__power_is_off,
    a_BLOCK_SIZES := k_BLOCK_SIZES,
    c_BLOCK_SIZES := PySem.W.mg_of X G q_BLOCK_SIZES,
    r_BLOCK_SIZES := rfl,
    v_BLOCK_SIZES := fun _ => .inr ⟨_, _, _, y_BLOCK_SIZES, rfl, rfl, Nat.le_of_ble_eq_true rfl, (.cons ⟨_, rfl⟩ (.cons ⟨_, rfl⟩ (.cons ⟨_, rfl⟩ .nil)))⟩,
    t_PART := t_PART,
    c_PART := PySem.W.mg_of X G q_PART,
    r_PART := ⟨_, rfl⟩,
    t_SLOTS := t_SLOTS,
    c_SLOTS := PySem.W.mg_of X G q_SLOTS,
    r_SLOTS := ⟨_, rfl⟩,
    t_SUMMARY_HEAD := t_SUMMARY_HEAD,
    c_SUMMARY_HEAD := PySem.W.mg_of X G q_SUMMARY_HEAD,
    r_SUMMARY_HEAD := ⟨_, rfl⟩,
    n_any := PySem.W.mg_none_of X G n_any,
    n_bool := PySem.W.mg_none_of X G n_bool,
    n_int := PySem.W.mg_none_of X G n_int,
    n_isinstance := PySem.W.mg_none_of X G n_isinstance,
    n_len := PySem.W.mg_none_of X G n_len,
    n_list := PySem.W.mg_none_of X G n_list,
    n_range := PySem.W.mg_none_of X G n_range,
    n_tuple := PySem.W.mg_none_of X G n_tuple }
  exact ⟨_, fun s v => .of_eq rfl, fun base _ _ => ok_law T⟩
theorem walk {l : PySem.W.OpenLaw} {q : Program} {loose : List Str} {XP : (Str → Option Value) → Heap → Prop} {YP : World → Heap → Prop} {d : DefRec} {K : Params → PySem.W.Frag} (hn : l.most = some 63) (hdf : d.params.defaults = [])
    (hY : ∀ (w : World) (h : Heap), YP w h → (K w.params).In h)
    (F : ∀ (w : World) (mg : Str → Option Value) (fa : Addr) (h : Heap), (K w.params).In h → h.Ns mainGlobals mg → mg d.name = some (.ref fa) →
      ∃ fd : FuncData, (∀ (s : Shared) (u : Value), BindsTo s fd ⟨[u], []⟩ [("script", u)]) ∧ ∀ base : Heap, (K w.params).In base → base.Ns mainGlobals mg → FnOk l.prog w (K w.params) mg base CX0 5 fa fd ["script"] (spLawK (K w.params))) :
    PySem.W.WalkO q loose XP YP l.row.toRowW d [] (fun f vs => PySem.call f vs) :=
  L2.walk_of (n := 63) (k := 5) (x := "script") (CX := fun _ => CX0) (sp := fun w => spLawK (K w.params)) hn (by decide) hdf ⟨rfl, by decide, by decide⟩ hY F (fun _ _ a ns hl hO hS => ⟨a, ns, rfl, scr_of hO hS, hl, fun _ => rfl⟩) fun _ _ _ _ _ z => z
end Sg

open PySem PySem.W PyProof.Rows in
set_option maxRecDepth 100000 in
set_option maxHeartbeats 0 in
theorem PySem.Challenge.cw_segmentfs_k14_regions_that_hold_a_checkp_holds : PySem.Challenge.rw_segmentfs_k14_regions_that_hold_a_checkp.Holds := by
  w_on; o_law; k_head; (case hw => w_witness2)
  k_fill
  refine Sg.walk (l := PySem.Challenge.rw_segmentfs_k14_regions_that_hold_a_checkp) rfl rfl (fun w h Y => PySem.W.kIn_of Y) ?F
  case F =>
    intro w mg fa h KX G hmg
    refine' Sg.all_mk KX G hmg ?mC_Layout ?pg_Layout ?hd_Layout ?po_Layout ?sa_Layout ?mk_Layout ?kc_Layout ?na_Layout_segments ?na_Layout_segment_blocks ?na_Layout_block_size ?na_Layout_payload ?na_Layout_limit ?na_Layout_last_id ?na_Layout_fan ?na_Layout_region_blocks ?na_Layout_device_blocks ?mC_Device ?pg_Device ?hd_Device ?po_Device ?sa_Device ?mk_Device ?kc_Device ?na_Device_layout ?na_Device__sure ?na_Device__shown ?na_Device__unsure ?na_Device__commands_left ?na_Device__power_is_off ?a_Layout___init ?i_Layout___init ?l_Layout___init ?c_Layout___init ?k_Layout___init ?a_region_start ?l_region_start ?c_region_start ?k_region_start ?a_parts_of ?l_parts_of ?c_parts_of ?k_parts_of ?a_read_numbers ?l_read_numbers ?c_read_numbers ?k_read_numbers ?a_checkpoint_in ?l_checkpoint_in ?c_checkpoint_in ?k_checkpoint_in ?a_Device___init ?i_Device___init ?l_Device___init ?dl_Device___init ?c_Device___init ?k_Device___init ?a_Device_read ?i_Device_read ?l_Device_read ?c_Device_read ?k_Device_read ?a_Device_write ?i_Device_write ?l_Device_write ?c_Device_write ?k_Device_write ?a_Device_pending ?i_Device_pending ?l_Device_pending ?c_Device_pending ?k_Device_pending ?a_Device__takes_place ?i_Device__takes_place ?l_Device__takes_place ?c_Device__takes_place ?k_Device__takes_place ?a_put_block ?l_put_block ?c_put_block ?k_put_block ?a_law_row ?l_law_row ?c_law_row ?k_law_row ?a_law_digits ?l_law_digits ?c_law_digits ?k_law_digits ?a_law_layout ?l_law_layout ?c_law_layout ?k_law_layout ?a_law_table ?l_law_table ?c_law_table ?k_law_table ?a_law_numbers ?l_law_numbers ?c_law_numbers ?k_law_numbers ?a_law_parts ?l_law_parts ?c_law_parts ?k_law_parts ?a_law_spoilt ?l_law_spoilt ?c_law_spoilt ?k_law_spoilt ?a_law_holds ?l_law_holds ?c_law_holds ?k_law_holds ?a_law ?l_law ?c_law ?k_law ?q_BLOCK_SIZES ?y_BLOCK_SIZES ?q_PART ?q_SLOTS ?q_SUMMARY_HEAD ?n_any ?n_bool ?n_int ?n_isinstance ?n_len ?n_list ?n_range ?n_tuple
    (case mC_Layout => k_is)
    (case pg_Layout => k_is)
    (case hd_Layout => k_is)
    (case po_Layout => k_is)
    (case sa_Layout => k_is)
    (case mk_Layout => k_is)
    (case kc_Layout => k_is)
    (case na_Layout_segments => k_is)
    (case na_Layout_segment_blocks => k_is)
    (case na_Layout_block_size => k_is)
    (case na_Layout_payload => k_is)
    (case na_Layout_limit => k_is)
    (case na_Layout_last_id => k_is)
    (case na_Layout_fan => k_is)
    (case na_Layout_region_blocks => k_is)
    (case na_Layout_device_blocks => k_is)
    (case mC_Device => k_is)
    (case pg_Device => k_is)
    (case hd_Device => k_is)
    (case po_Device => k_is)
    (case sa_Device => k_is)
    (case mk_Device => k_is)
    (case kc_Device => k_is)
    (case na_Device_layout => k_is)
    (case na_Device__sure => k_is)
    (case na_Device__shown => k_is)
    (case na_Device__unsure => k_is)
    (case na_Device__commands_left => k_is)
    (case na_Device__power_is_off => k_is)
    (case a_Layout___init => k_is)
    (case i_Layout___init => k_is)
    (case l_Layout___init => k_is)
    (case c_Layout___init => k_is)
    (case k_Layout___init => k_is)
    (case a_region_start => k_is)
    (case l_region_start => k_is)
    (case c_region_start => k_is)
    (case k_region_start => k_is)
    (case a_parts_of => k_is)
    (case l_parts_of => k_is)
    (case c_parts_of => k_is)
    (case k_parts_of => k_is)
    (case a_read_numbers => k_is)
    (case l_read_numbers => k_is)
    (case c_read_numbers => k_is)
    (case k_read_numbers => k_is)
    (case a_checkpoint_in => k_is)
    (case l_checkpoint_in => k_is)
    (case c_checkpoint_in => k_is)
    (case k_checkpoint_in => k_is)
    (case a_Device___init => k_is)
    (case i_Device___init => k_is)
    (case l_Device___init => k_is)
    (case dl_Device___init => k_is)
    (case c_Device___init => k_is)
    (case k_Device___init => k_is)
    (case a_Device_read => k_is)
    (case i_Device_read => k_is)
    (case l_Device_read => k_is)
    (case c_Device_read => k_is)
    (case k_Device_read => k_is)
    (case a_Device_write => k_is)
    (case i_Device_write => k_is)
    (case l_Device_write => k_is)
    (case c_Device_write => k_is)
    (case k_Device_write => k_is)
    (case a_Device_pending => k_is)
    (case i_Device_pending => k_is)
    (case l_Device_pending => k_is)
    (case c_Device_pending => k_is)
    (case k_Device_pending => k_is)
    (case a_Device__takes_place => k_is)
    (case i_Device__takes_place => k_is)
    (case l_Device__takes_place => k_is)
    (case c_Device__takes_place => k_is)
    (case k_Device__takes_place => k_is)
    (case a_put_block => k_is)
    (case l_put_block => k_is)
    (case c_put_block => k_is)
    (case k_put_block => k_is)
    (case a_law_row => k_is)
    (case l_law_row => k_is)
    (case c_law_row => k_is)
    (case k_law_row => k_is)
    (case a_law_digits => k_is)
    (case l_law_digits => k_is)
    (case c_law_digits => k_is)
    (case k_law_digits => k_is)
    (case a_law_layout => k_is)
    (case l_law_layout => k_is)
    (case c_law_layout => k_is)
    (case k_law_layout => k_is)
    (case a_law_table => k_is)
    (case l_law_table => k_is)
    (case c_law_table => k_is)
    (case k_law_table => k_is)
    (case a_law_numbers => k_is)
    (case l_law_numbers => k_is)
    (case c_law_numbers => k_is)
    (case k_law_numbers => k_is)
    (case a_law_parts => k_is)
    (case l_law_parts => k_is)
    (case c_law_parts => k_is)
    (case k_law_parts => k_is)
    (case a_law_spoilt => k_is)
    (case l_law_spoilt => k_is)
    (case c_law_spoilt => k_is)
    (case k_law_spoilt => k_is)
    (case a_law_holds => k_is)
    (case l_law_holds => k_is)
    (case c_law_holds => k_is)
    (case k_law_holds => k_is)
    (case a_law => k_is)
    (case l_law => k_is)
    (case c_law => k_is)
    (case k_law => k_is)
    (case q_BLOCK_SIZES => k_is)
    (case y_BLOCK_SIZES => k_is)
    (case q_PART => k_is)
    (case q_SLOTS => k_is)
    (case q_SUMMARY_HEAD => k_is)
    (case n_any => k_is)
    (case n_bool => k_is)
    (case n_int => k_is)
    (case n_isinstance => k_is)
    (case n_len => k_is)
    (case n_list => k_is)
    (case n_range => k_is)
    (case n_tuple => k_is)

