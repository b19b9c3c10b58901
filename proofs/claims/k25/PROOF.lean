import PyProof.Rows.All
import Wide.All
import OpenK.AllK
import Wide.FinOn
import HandS.ForMost
import HandS.IsInst
import HandS.Style
import HandS.Wide
import HandS.Codes
import HandS.NoneIn
import HandS.Defaults
import HandS.TupMul
import HandS.TupAny
import HandS.Zip
import HandS.SetFor
import HandS.SetKeys
import HandS.Walk
import HandS.Codes
import HandS.Property
import HandS.MakeKw
import HandS.MakeKwOnly
import HandS.Style
import HandS.More
import HandS.Dict
import HandS.Iter
import HandS.SortInts
import HandS.Strs
import HandS.DictTup
import HandS.Deep
import HandS.SetBool
import KE.GoesEnum
import KE.GoesEnumKw
import HandS.GenYield
import HandS.GenCall
import HandS.GenList
import HandS.SortRule
import HandS.Conv
import PySem.Challenge.RW_segmentfs_k25_reports_of_segments
set_option Elab.async false
set_option maxRecDepth 100000
set_option maxHeartbeats 4000000
/-! what every text of mine begins with: heaps that grow, and a rule for each head that a reading has -/
namespace Sg
open PySem L2
theorem sz : sizeLine = 16777216 := by decide
theorem Same.of_new {H H' : Hp} {p : Addr} {o : HO} (e : upd H p o = H') (h : H p = none) : Same H H' := fun b u q => by
  rw [← e, upd_ne (ne_of_none q h)]; exact q
theorem at_new {H H' : Hp} {p : Addr} {o : HO} (e : upd H p o = H') : H' p = some o := by rw [← e]; exact upd_same
theorem Same.tup {K : PySem.W.Frag} {H H' : Hp} {a : Addr} {xs : List V} (e : Same H H') (h : SqT K H a xs) : SqT K H' a xs := by
  rcases h with (h | ⟨o, h⟩) | h
  · exact .inl (.inl (e _ _ h))
  · exact .inl (.inr ⟨o, e _ _ h⟩)
  · exact .inr h
/-- an object that is younger than H0 is changed -/
theorem Same.old {H0 H H' : Hp} {p : Addr} {o : HO} (s : Same H0 H) (h : H0 p = none) (e : upd H p o = H') : Same H0 H' := fun b u q => by
  rw [← e, upd_ne (ne_of_none q h)]; exact s _ _ q
theorem at_keep {H H' : Hp} {l a : Addr} {o o' ol : HO} (e : upd H l o' = H') (h : H a = some o) (h' : H l = some ol) (d : o ≠ ol) : H' a = some o := by
  rw [← e, upd_ne (ne_of h h' d)]; exact h
theorem lk_eq {f : Str} {v : V} {fs : List (Str × V)} : (putF f v fs).lookup f = some v := by rw [lookup_putF, if_pos rfl]
theorem lk_ne {f g : Str} {v x : V} {fs : List (Str × V)} (h : ¬ g = f) (q : fs.lookup g = some v) : (putF f x fs).lookup g = some v := by rw [lookup_putF, if_neg h]; exact q
theorem lk_no {f g : Str} {x : V} {fs : List (Str × V)} (h : ¬ g = f) (q : fs.lookup g = none) : (putF f x fs).lookup g = none := by rw [lookup_putF, if_neg h]; exact q
theorem putF_len {f : Str} {v : V} : ∀ {fs : List (Str × V)} {n : Nat}, fs.length ≤ n → (putF f v fs).length ≤ n + 1
  | [], n, _ => by simp [putF]
  | (g, x) :: r, n, h => by
    unfold putF
    split
    · simp at h ⊢; omega
    · cases n with
      | zero => simp at h
      | succ n =>
        simp at h ⊢
        exact putF_len h
theorem to_ite {A B : Prop} {b : Bool} (h1 : b = true → A) (h2 : b = false → B) : if b = true then A else B := by
  cases b with
  | true => exact iteT (h1 rfl)
  | false => exact iteF (h2 rfl)
theorem iteT' {A B : Prop} (h : A) : if (true : Bool) = true then A else B := iteT h
theorem iteF' {A B : Prop} (h : B) : if (false : Bool) = true then A else B := iteF h
theorem r_iteb {A B : Prop} {b : Bool} (hb : b = true) (h : A) : if b = true then A else B := to_ite (fun _ => h) fun z => by rw [hb] at z; cases z
theorem r_iteB {A B : Prop} {b : Bool} (hb : b = false) (h : B) : if b = true then A else B := to_ite (fun z => by rw [hb] at z; cases z) fun _ => h
theorem r_ite {A B c : Prop} [Decidable c] (h1 : c → A) (h2 : ¬ c → B) : if decide c = true then A else B :=
  to_ite (fun h => h1 (of_decide_eq_true h)) (fun h => h2 (of_decide_eq_false h))
theorem r_iteN {A B c : Prop} [Decidable c] (h1 : ¬ c → A) (h2 : c → B) : if (!decide c) = true then A else B :=
  to_ite (fun h => h1 (by simpa using h)) (fun h => h2 (by simpa using h))
theorem r_iteD {A B c : Prop} [Decidable c] (hc : c) (h : A) : if decide c = true then A else B := r_ite (fun _ => h) fun z => absurd hc z
theorem r_iteDn {A B c : Prop} [Decidable c] (hc : ¬ c) (h : B) : if decide c = true then A else B := r_ite (fun z => absurd z hc) fun _ => h
theorem r_iteND {A B c : Prop} [Decidable c] (hc : ¬ c) (h : A) : if (!decide c) = true then A else B := r_iteN (fun _ => h) fun z => absurd z hc
theorem r_iteNDn {A B c : Prop} [Decidable c] (hc : c) (h : B) : if (!decide c) = true then A else B := r_iteN (fun z => absurd hc z) fun _ => h
/-- the continuations of a reading, by name -/
def kTest (QB : Bool → Hp → Prop) : V → Hp → Prop := fun x H => ∃ k, x = .bl k ∧ QB k H
def kFld (K : PySem.W.Frag) (f : Str) (Q : V → Hp → Prop) : V → Hp → Prop := fun x H => ∃ a C dx fs v, x = .ref a ∧ H a = some (.ins C dx fs) ∧ Cls K C ∧ NoAttr K C f ∧ fs.lookup f = some v ∧ Q v H
def kSfld (K : PySem.W.Frag) (D : Ends) (σ : L2.St) (f : Str) (y : V) : V → Hp → Prop := fun x H => ∃ a C dx fs, x = .ref a ∧ H a = some (.ins C dx fs) ∧ Cls K C ∧ NoAttr K C f ∧ fs.length < 1000 ∧
  D.nx σ (upd H a (.ins C dx (putF f y fs)))
def kMeth (C : Addr) (m : Str) (sp : Sp) (dvs : List V) (E : XK) (σ : L2.St) (t : TA) (Q : V → Hp → Prop) : V → Hp → Prop := fun x H => ∃ a dx fs, x = .ref a ∧ H a = some (.ins C dx fs) ∧ fs.lookup m = none ∧ t σ H fun vs H2 => sp (x :: (vs ++ dvs)) H2 Q E
def kTup (Q : V → Hp → Prop) : List V → Hp → Prop := fun xs H => xs.length ≤ sizeLine ∧ ∀ p, H p = none → Q (.ref p) (upd H p (.tup xs))
def kLst (Q : V → Hp → Prop) : List V → Hp → Prop := fun xs H => xs.length ≤ sizeLine ∧ ∀ p, H p = none → Q (.ref p) (upd H p (.lst xs))
def rLen (K : PySem.W.Frag) : List V → Hp → (V → Hp → Prop) → Prop := fun xs H Q => ∃ p ys, xs = [.ref p] ∧ (SqL K H p ys ∨ SqT K H p ys) ∧ Q (.int ys.length) H
theorem c_len {X : Cx} : CallR X (.builtin "len") (rLen X.K) := call_len_seq
def rInt : List V → Hp → (V → Hp → Prop) → Prop := fun xs H Q => (∃ i, xs = [.int i] ∧ Q (.int i) H) ∨ ∃ k, xs = [.bl k] ∧ Q (.int (if k then 1 else 0)) H
theorem c_int {X : Cx} : CallR X (.type "int") rInt := call_int1
def rListOf (K : PySem.W.Frag) : List V → Hp → (V → Hp → Prop) → Prop := fun xs H Q => ∃ p ys, xs = [.ref p] ∧ (SqL K H p ys ∨ SqT K H p ys) ∧ ∀ l, H l = none → Q (.ref l) (upd H l (.lst ys))
theorem c_list {X : Cx} : CallR X (.type "list") (rListOf X.K) := call_list_of
def rTupOf (K : PySem.W.Frag) : List V → Hp → (V → Hp → Prop) → Prop := fun xs H Q => ∃ p ys, xs = [.ref p] ∧ ((SqL K H p ys ∧ ∀ l, H l = none → Q (.ref l) (upd H l (.tup ys))) ∨ (SqT K H p ys ∧ Q (.ref p) H))
theorem c_tuple {X : Cx} : CallR X (.type "tuple") (rTupOf X.K) := call_tuple_of
/-! the same rules within a comprehension: the written part by its own name -/
section
variable {X : Cx}
theorem c_listK (K : PySem.W.Frag) (h : X.K = K) : CallR X (.type "list") (rListOf K) := by subst h; exact c_list
theorem c_tupleK (K : PySem.W.Frag) (h : X.K = K) : CallR X (.type "tuple") (rTupOf K) := by subst h; exact c_tuple
theorem c_lenK (K : PySem.W.Frag) (h : X.K = K) : CallR X (.builtin "len") (rLen K) := by subst h; exact c_len
theorem ix_listK (K : PySem.W.Frag) (h : X.K = K) : IxR X (rIxL K) := by subst h; exact ix_list
theorem ix_tupK (K : PySem.W.Frag) (h : X.K = K) : IxR X (rIxT K) := by subst h; exact ix_tup
theorem op_in_seqK (K : PySem.W.Frag) (h : X.K = K) : OpR X (compareOp .In) (rIn K false) := by subst h; exact op_in_seq
theorem op_notIn_seqK (K : PySem.W.Frag) (h : X.K = K) : OpR X (compareOp .NotIn) (rIn K true) := by subst h; exact op_notIn_seq
theorem pe_fldK (K : PySem.W.Frag) (h : X.K = K) {e : Expr} {f : Str} {pos : Pos} {ta : TE} (he : PE X e ta) (hb : attributeBase e f X.env (eval e X.env) = eval e X.env) : PE X (.Attribute e f pos) (tFld K ta f) := by subst h; exact pe_fld he hb
end
section
variable {σ : L2.St} {H : Hp} {D : Ends} {t u : TS} {te ta tb tc : TE} {g : TG} {c ct cu : TT} {Q : VK} {QB : Bool → Hp → Prop} {QS : L2.St → Hp → Prop} {QA : List V → Hp → Prop} {v x y : V} {K : PySem.W.Frag} {a p l : Addr} {xs ys : List V} {i j : Int} {b : Bool}
theorem r_seq (h : t { D with nx := u D } σ H) : tSeq t u D σ H := h
theorem r_cut (Mid : L2.St → Hp → Prop) (h1 : t { D with nx := Mid } σ H) (h2 : ∀ σ' H', Mid σ' H' → u D σ' H') : C8.tCut t u D σ H := ⟨Mid, h1, h2⟩
/-- a test with nothing kept behind it -/
theorem r_cutS (h1 : t { D with nx := fun σ' H' => σ = σ' ∧ H = H' } σ H) (h2 : u D σ H) : C8.tCut t u D σ H := ⟨_, h1, fun _ _ ⟨e1, e2⟩ => by subst e1; subst e2; exact h2⟩
/-- .. but a heap that grew -/
theorem r_cutH (h1 : t { D with nx := fun σ' H' => σ = σ' ∧ L2.Same H H' } σ H) (h2 : ∀ H', L2.Same H H' → u D σ H') : C8.tCut t u D σ H := ⟨_, h1, fun _ _ ⟨e1, e2⟩ => by subst e1; exact h2 _ e2⟩
theorem r_asg (h : te σ H fun x H1 => g x σ H1 D.nx) : tAsg te g D σ H := h
theorem r_drop (h : te σ H fun _ H1 => D.nx σ H1) : tDrop te D σ H := h
theorem r_ret (h : te σ H D.rt) : tRet te D σ H := h
theorem r_ifs (h : c σ H fun b H1 => if b = true then t D σ H1 else u D σ H1) : tIfS c t u D σ H := h
theorem r_next (h : D.nx σ H) : tNext D σ H := h
theorem r_gname {n : Nat} (h : QS (σ.set n (some v)) H) : gName n v σ H QS := h
theorem r_gtup {n : Nat} {t : TGs} (hx : SqT K H a xs) (hl : xs.length = n) (h : t xs σ H QS) : gTup K n t (.ref a) σ H QS := ⟨a, xs, rfl, hx, hl, h⟩
theorem r_gunl {n : Nat} {t : TGs} (hx : SqL K H a xs) (hl : xs.length = n) (h : t xs σ H QS) : gUnl K n t (.ref a) σ H QS := ⟨a, xs, rfl, hx, hl, h⟩
theorem r_chain {r r' : R2} (h : ta σ H fun x H1 => tb σ H1 fun y H2 => r x y H2 fun z H3 => ∃ k, z = .bl k ∧ (if k = true then tc σ H3 fun w' H4 => r' y w' H4 Q else Q (.bl false) H3)) : tChain r r' ta tb tc σ H Q := h
theorem r_sfldL {C dx : Addr} {fs : List (Str × V)} {f : Str} (h : H a = some (.ins C dx fs)) (hc : Cls K C) (hn : NoAttr K C f) (hl : fs.length < 1000) (q : D.nx σ (upd H a (.ins C dx (putF f y fs)))) : kSfld K D σ f y (.ref a) H := ⟨a, C, dx, fs, rfl, h, hc, hn, hl, q⟩
theorem r_gmap {α : Type} {f : α → V} {y : α} {r : List α} {t : TG} {u : TGs} (h : t (f y) σ H fun σ' H' => u (List.map f r) σ' H' QS) : gCons t u (List.map f (y :: r)) σ H QS := ⟨_, _, rfl, h⟩
theorem r_gmapn {α : Type} {f : α → V} (h : QS σ H) : gNil (List.map f []) σ H QS := ⟨rfl, h⟩
theorem r_gnil (h : QS σ H) : gNil [] σ H QS := ⟨rfl, h⟩
theorem r_gcons {t : TG} {u : TGs} {r : List V} (h : t v σ H fun σ' H' => u r σ' H' QS) : gCons t u (v :: r) σ H QS := ⟨v, r, rfl, h⟩
theorem r_gsub {t : TSet} (h : ta σ H fun o H1 => tb σ H1 fun i H2 => t o i v H2 fun H3 => QS σ H3) : gSub ta tb t v σ H QS := h
theorem r_setl {k : Int} {n : Nat} {R : Hp → Prop} (h1 : H p = some (.lst xs)) (h2 : ixN xs.length k = some n) (q : R (upd H p (.lst (xs.set n v)))) : rSetL (.ref p) (.int k) v H R := ⟨p, xs, k, n, rfl, rfl, h1, h2, q⟩
theorem r_var {n : Nat} (h : σ[n]? = some (some v)) (q : Q v H) : tVar n σ H Q := ⟨v, h, q⟩
theorem r_c (q : Q v H) : tC v σ H Q := q
theorem r_op {r : R2} (h : ta σ H fun x H1 => tb σ H1 fun y H2 => r x y H2 Q) : tOp r ta tb σ H Q := h
theorem r_un {r : V → Hp → VK → Prop} (h : ta σ H fun x H1 => r x H1 Q) : tUn r ta σ H Q := h
theorem r_rI {C : Int → Int → Prop} {g : Int → Int → V} (hc : C i j) (q : Q (g i j) H) : rI C g (.int i) (.int j) H Q := ⟨i, j, rfl, rfl, hc, q⟩
theorem r_mod (hc : 0 < j) (q : ∀ z : Int, z = i % j → 0 ≤ z → z < j → Q (.int z) H) : rI (fun _ j => 0 < j) (fun i j => .int (i % j)) (.int i) (.int j) H Q :=
  ⟨i, j, rfl, rfl, hc, q _ rfl (Int.emod_nonneg i (by omega)) (Int.emod_lt_of_pos i hc)⟩
theorem r_rI0 {g : Int → Int → V} (q : Q (g i j) H) : rI0 g (.int i) (.int j) H Q := ⟨i, j, rfl, rfl, q⟩
theorem r_rU {g : Int → V} (q : Q (g i) H) : rU g (.int i) H Q := ⟨i, rfl, q⟩
theorem r_eq (hs : scal x y = true) (q : Q (.bl (decide (x = y))) H) : rEq x y H Q := ⟨hs, q⟩
theorem r_ne (hs : scal x y = true) (q : Q (.bl (!decide (x = y))) H) : rNe x y H Q := ⟨hs, q⟩
theorem r_eqi (q : Q (.bl (decide (i = j))) H) : rEq (.int i) (.int j) H Q := ⟨rfl, by
  rw [show decide (V.int i = V.int j) = decide (i = j) from by by_cases e : i = j <;> simp [e]]; exact q⟩
theorem r_nei (q : Q (.bl (!decide (i = j))) H) : rNe (.int i) (.int j) H Q := ⟨rfl, by
  rw [show decide (V.int i = V.int j) = decide (i = j) from by by_cases e : i = j <;> simp [e]]; exact q⟩
theorem r_eqs {s t : Str} (q : Q (.bl (decide (s = t))) H) : rEq (.str s) (.str t) H Q := ⟨rfl, by
  rw [show decide (V.str s = V.str t) = decide (s = t) from by by_cases e : s = t <;> simp [e]]; exact q⟩
theorem r_nes {s t : Str} (q : Q (.bl (!decide (s = t))) H) : rNe (.str s) (.str t) H Q := ⟨rfl, by
  rw [show decide (V.str s = V.str t) = decide (s = t) from by by_cases e : s = t <;> simp [e]]; exact q⟩
theorem r_adds {s t : Str} (hz : s.length + t.length ≤ 1000000) (q : Q (.str (s ++ t)) H) : (fun (x y : V) (H : Hp) (Q : VK) => ∃ i j, x = .str i ∧ y = .str j ∧ i.length + j.length ≤ sizeLine ∧ Q (.str (i ++ j)) H) (.str s) (.str t) H Q := ⟨s, t, rfl, rfl, by rw [sz]; omega, q⟩
theorem r_nonR {A B : Prop} (h : A) : if (!decide (V.ref a = V.non)) = true then A else B := iteT' h
theorem r_nonN {A B : Prop} (h : B) : if (!decide (V.non = V.non)) = true then A else B := iteF' h
theorem r_isR {A B : Prop} (h : B) : if decide (V.ref a = V.non) = true then A else B := iteF' h
theorem r_isNN {A B : Prop} (h : A) : if decide (V.non = V.non) = true then A else B := iteT' h
theorem r_nonI {A B : Prop} (h : A) : if (!decide (V.int i = V.non)) = true then A else B := iteT' h
theorem r_isI {A B : Prop} (h : B) : if decide (V.int i = V.non) = true then A else B := iteF' h
theorem r_eqb {a b : Bool} (q : Q (.bl (decide (a = b))) H) : rEq (.bl a) (.bl b) H Q := ⟨rfl, by
  rw [show decide (V.bl a = V.bl b) = decide (a = b) from by by_cases e : a = b <;> simp [e]]; exact q⟩
theorem r_isS {A B : Prop} {z : Str} (h : B) : if decide (V.str z = V.non) = true then A else B := iteF' h
theorem r_nonS {A B : Prop} {z : Str} (h : A) : if (!decide (V.str z = V.non)) = true then A else B := iteT' h
theorem r_nil (q : QA [] H) : tNil σ H QA := q
theorem r_cons {tr : TA} (h : ta σ H fun x H1 => tr σ H1 fun xs H2 => QA (x :: xs) H2) : tCons ta tr σ H QA := h
theorem r_cb {r : List V → Hp → VK → Prop} {t : TA} (h : t σ H fun vs H1 => r vs H1 Q) : tCB r t σ H Q := h
theorem r_call {sp : Sp} {dvs : List V} {E : XK} {t : TA} (h : t σ H fun vs H1 => sp (vs ++ dvs) H1 Q E) : tCall sp dvs E t σ H Q := h
theorem r_make {C : Addr} {sp : Sp} {dvs : List V} {E : XK} {t : TA} (h : t σ H fun vs H1 => ∀ x dx, H1 x = none → H1 dx = none → dx ≠ x →
  sp (.ref x :: (vs ++ dvs)) (upd (upd H1 dx (.own x)) x (.ins C dx [])) (fun v H2 => v = .non ∧ Q (.ref x) H2) E) : tMake C sp dvs E t σ H Q := h
theorem r_meth {C : Addr} {m : Str} {sp : Sp} {dvs : List V} {E : XK} {t : TA} (h : ta σ H (kMeth C m sp dvs E σ t Q)) : tMeth C m sp dvs E ta t σ H Q := h
theorem r_methL {C : Addr} {dx : Addr} {fs : List (Str × V)} {m : Str} {sp : Sp} {dvs : List V} {E : XK} {t : TA} (h : H a = some (.ins C dx fs)) (hl : fs.lookup m = none) (q : t σ H fun vs H2 => sp (.ref a :: (vs ++ dvs)) H2 Q E) : kMeth C m sp dvs E σ t Q (.ref a) H := ⟨a, dx, fs, rfl, h, hl, q⟩
theorem r_fld {f : Str} (h : ta σ H (kFld K f Q)) : tFld K ta f σ H Q := h
theorem r_fldL {C dx : Addr} {fs : List (Str × V)} {f : Str} (h : H a = some (.ins C dx fs)) (hc : Cls K C) (hn : NoAttr K C f) (hl : fs.lookup f = some v) (q : Q v H) : kFld K f Q (.ref a) H := ⟨a, C, dx, fs, v, rfl, h, hc, hn, hl, q⟩
theorem r_sfld {f : Str} (h : tb σ H fun y H1 => ta σ H1 (kSfld K D σ f y)) : sFld K ta tb f D σ H := h
theorem r_test (h : te σ H (kTest QB)) : tTest te σ H QB := h
theorem r_tB (h : te σ H (kTest QB)) : tB te σ H QB := h
theorem r_exb (q : QB b H) : kTest QB (.bl b) H := ⟨b, rfl, q⟩
theorem r_and (h : ct σ H fun c H1 => if c = true then cu σ H1 QB else QB false H1) : tAnd ct cu σ H QB := h
theorem r_or (h : ct σ H fun c H1 => if c = true then QB true H1 else cu σ H1 QB) : tOr ct cu σ H QB := h
theorem r_not (h : ct σ H fun c H1 => QB (!c) H1) : tNot ct σ H QB := h
theorem r_andV (h : ta σ H fun x H1 => ∃ c, x = .bl c ∧ if c = true then tb σ H1 Q else Q (.bl false) H1) : tAndV ta tb σ H Q := h
theorem r_orV (h : ta σ H fun x H1 => ∃ c, x = .bl c ∧ if c = true then Q (.bl true) H1 else tb σ H1 Q) : tOrV ta tb σ H Q := h
theorem r_exbP {A : Bool → Prop} (q : A b) : ∃ c, V.bl b = .bl c ∧ A c := ⟨b, rfl, q⟩
theorem r_notV (h : ta σ H fun x H1 => ∃ c, x = .bl c ∧ Q (.bl (!c)) H1) : tNotV ta σ H Q := h
theorem r_tif (h : c σ H fun b H1 => if b = true then ta σ H1 Q else tb σ H1 Q) : tIf c ta tb σ H Q := h
theorem r_isN (h : ta σ H fun x H1 => Q (.bl (decide (x = .non))) H1) : tIsN ta σ H Q := h
theorem r_notN (h : ta σ H fun x H1 => Q (.bl (!decide (x = .non))) H1) : tNotN ta σ H Q := h
theorem r_tup {t : TA} (h : t σ H (kTup Q)) : tTup t σ H Q := h
theorem r_lst {t : TA} (h : t σ H (kLst Q)) : tLst t σ H Q := h
theorem r_ktup (hl : xs.length ≤ sizeLine) (h : ∀ p, H p = none → Q (.ref p) (upd H p (.tup xs))) : kTup Q xs H := ⟨hl, h⟩
theorem r_klst (hl : xs.length ≤ sizeLine) (h : ∀ p, H p = none → Q (.ref p) (upd H p (.lst xs))) : kLst Q xs H := ⟨hl, h⟩
theorem r_ixl (h : SqL K H p xs) (e : atI xs i = some v) (q : Q v H) : rIxL K (.ref p) (.int i) H Q := ⟨p, xs, i, v, rfl, rfl, h, e, q⟩
theorem r_ixt (h : SqT K H p xs) (e : atI xs i = some v) (q : Q v H) : rIxT K (.ref p) (.int i) H Q := ⟨p, xs, i, v, rfl, rfl, h, e, q⟩
theorem r_int (q : Q (.int i) H) : rInt [V.int i] H Q := .inl ⟨i, rfl, q⟩
theorem r_lenl (h : SqL K H p xs) (q : Q (.int xs.length) H) : rLen K [V.ref p] H Q := ⟨p, xs, rfl, .inl h, q⟩
theorem r_lent (h : SqT K H p xs) (q : Q (.int xs.length) H) : rLen K [V.ref p] H Q := ⟨p, xs, rfl, .inr h, q⟩
theorem r_listl (h : SqL K H p xs) (q : ∀ l, H l = none → Q (.ref l) (upd H l (.lst xs))) : rListOf K [V.ref p] H Q := ⟨p, xs, rfl, .inl h, q⟩
theorem r_listt (h : SqT K H p xs) (q : ∀ l, H l = none → Q (.ref l) (upd H l (.lst xs))) : rListOf K [V.ref p] H Q := ⟨p, xs, rfl, .inr h, q⟩
theorem r_tupl (h : SqL K H p xs) (q : ∀ l, H l = none → Q (.ref l) (upd H l (.tup xs))) : rTupOf K [V.ref p] H Q := ⟨p, xs, rfl, .inl ⟨h, q⟩⟩
theorem r_tupt (h : SqT K H p xs) (q : Q (.ref p) H) : rTupOf K [V.ref p] H Q := ⟨p, xs, rfl, .inr ⟨h, q⟩⟩
theorem r_in {neg : Bool} (h : SqL K H p xs ∨ SqT K H p xs) (fx : flatV x = true) (fs : xs.all flatV = true) (q : Q (.bl (if neg = true then !inV x xs else inV x xs)) H) : rIn K neg x (.ref p) H Q := ⟨p, xs, rfl, h, fx, fs, q⟩
theorem r_bm {T : String} {r : V → List V → Hp → VK → Prop} {t : TA} (h : ta σ H fun x H1 => tyV K T x H1 ∧ t σ H1 fun xs H2 => r x xs H2 Q) : tBM K T r ta t σ H Q := h
theorem r_bm0 {T : String} {r : V → List V → Hp → VK → Prop} (h : ta σ H fun x H1 => tyV K T x H1 ∧ r x [] H1 Q) : tBM0 K T r ta σ H Q := h
theorem r_tyl {A : Prop} (h : SqL K H l xs) (q : A) : tyV K "list" (.ref l) H ∧ A := ⟨.inl ⟨rfl, _, h⟩, q⟩
theorem r_app (h : H l = some (.lst xs)) (hl : xs.length < sizeLine) (q : Q .non (upd H l (.lst (xs ++ [v])))) : rAppend (.ref l) [v] H Q := ⟨l, xs, v, rfl, rfl, h, hl, q⟩
theorem r_isi {c : V} {t u : Value} (hc : ClsV c u) (ht : TyX K H x t) (hk : PySem.W.kitOne K t u = some b) (q : Q (.bl b) H) : rIsi K [x, c] H Q := ⟨x, c, t, u, b, rfl, hc, ht, hk, q⟩
theorem r_isb {a b : Bool} (q : Q (.bl (decide (a = b))) H) : rIsB (.bl a) (.bl b) H Q := ⟨a, b, rfl, rfl, q⟩
theorem r_notb {a b : Bool} (q : Q (.bl (!decide (a = b))) H) : rNotB (.bl a) (.bl b) H Q := ⟨a, b, rfl, rfl, q⟩
theorem r_eqd {d e : PyData} (h1 : Dp K H x d) (h2 : Dp K H y e) (s1 : SeqAt.shaped d = true) (s2 : SeqAt.shaped e = true) (q : Q (.bl (PyData.eqv d e)) H) : rEqD K x y H Q := ⟨d, e, h1, h2, s1, s2, q⟩
theorem r_ned {d e : PyData} (h1 : Dp K H x d) (h2 : Dp K H y e) (s1 : SeqAt.shaped d = true) (s2 : SeqAt.shaped e = true) (q : Q (.bl (!PyData.eqv d e)) H) : rNeD K x y H Q := ⟨d, e, h1, h2, s1, s2, q⟩
theorem r_rep {k : Int} (h : H l = some (.lst xs)) (h1 : -(2 ^ 63) ≤ k) (h2 : k < 2 ^ 63) (hz : xs.length * k.toNat ≤ sizeLine) (q : ∀ p, H p = none → Q (.ref p) (upd H p (.lst (List.replicate k.toNat xs).flatten))) : rRep (.ref l) (.int k) H Q := ⟨l, k, xs, rfl, rfl, h, h1, h2, hz, q⟩
theorem r_rep1 {k : Int} (h : H l = some (.lst [v])) (h1 : -1000000 ≤ k) (h2 : k ≤ 1000000) (q : ∀ p, H p = none → Q (.ref p) (upd H p (.lst (List.replicate k.toNat v)))) : rRep (.ref l) (.int k) H Q := ⟨l, k, [v], rfl, rfl, h, by omega, by omega, by rw [sz]; show 1 * _ ≤ _; omega, by
  rw [show (List.replicate k.toNat [v]).flatten = List.replicate k.toNat v from by
    generalize k.toNat = n
    induction n with
    | zero => rfl
    | succ n ih => rw [List.replicate_succ, List.flatten_cons, ih, List.replicate_succ]; rfl]
  exact q⟩
theorem r_cat (h : H l = some (.lst xs)) (h' : H p = some (.lst ys)) (hz : xs.length + ys.length ≤ sizeLine) (q : ∀ r, H r = none → Q (.ref r) (upd H r (.lst (xs ++ ys)))) : rCat (.ref l) (.ref p) H Q := ⟨l, p, xs, ys, rfl, rfl, h, h', hz, q⟩
theorem r_aug {n : Nat} {ti : TIp} (h : σ[n]? = some (some x)) (q : te σ H fun y H1 => ti x y H1 fun z H2 => D.nx (σ.set n (some z)) H2) : tAug n te ti D σ H := ⟨x, h, q⟩
theorem r_ipI {f : Int → Int → Int} (q : Q (.int (f i j)) H) : ipI f (.int i) (.int j) H Q := ⟨i, j, rfl, rfl, q⟩
theorem r_sorted {ns : List Int} (h : SqL K H a (ns.map V.int)) (h64 : ns.length < 64) (q : ∀ (ns' : List Int) (p : Addr), ns'.Perm ns → ns'.Pairwise (· ≤ ·) → H p = none → Q (.ref p) (upd H p (.lst (ns'.map V.int)))) : rSorted K [.ref a] H Q := ⟨a, ns, rfl, h, h64, q⟩
end
/-! slices, texts -/
def kPart (Q : Option Int → Hp → Prop) : V → Hp → Prop := fun x H => ∃ i, x = .int i ∧ Q (some i) H
section
variable {σ : L2.St} {H : Hp} {te : TE} {tl th : TO} {Q : V → Hp → Prop} {QO : Option Int → Hp → Prop} {K : PySem.W.Frag} {a : Addr} {xs : List V} {lo hi : Option Int} {i : Int} {z : Str}
theorem r_sl {r : V → Option Int → Option Int → Hp → VK → Prop} (h : te σ H fun x H1 => tl σ H1 fun l H2 => th σ H2 fun u H3 => r x l u H3 Q) : tSl r te tl th σ H Q := h
theorem r_noP (q : QO none H) : tNoPart σ H QO := q
theorem r_part (h : te σ H (kPart QO)) : tPart te σ H QO := h
theorem r_kPart (q : QO (some i) H) : kPart QO (.int i) H := ⟨i, rfl, q⟩
theorem r_slS (hl : z.length ≤ 1000000) (q : Q (.str (cutS z lo hi)) H) : rSlS (.str z) lo hi H Q := ⟨z, rfl, by rw [sz]; omega, q⟩
theorem r_slL (h : SqL K H a xs) (q : ∀ p, H p = none → Q (.ref p) (upd H p (.lst (cutV xs lo hi)))) : rSlL K (.ref a) lo hi H Q := ⟨a, xs, rfl, h, q⟩
end
/-! loops and comprehensions -/
def kLc (g : TG) (tt : TT) (te : TE) (vs : List Nat) (σ : L2.St) (Q : V → Hp → Prop) : It → Hp → Prop := fun J H1 => ∀ D, H1 D = none → ∃ W : Nat → Nat → Hp → Prop, (∃ m, W 0 m (upd H1 D (.lst []))) ∧ ∀ i m H, W i m H →
  (J.stop i H ∧ Q (.ref D) H) ∨ (J.go i H ∧ ∃ Nx : Hp → Prop, (∀ H', Nx H' → ∃ m', m' < m ∧ W (i + 1) m' H') ∧ ∀ x H', J.yld i H x H' → g x (wipe σ vs) H' fun σ2 H2 => wipe σ2 vs = wipe σ vs ∧ tt σ2 H2 fun b H3 =>
    if b = true then te σ2 H3 fun y H4 => ∃ acc, H4 D = some (.lst acc) ∧ acc.length < sizeLine ∧ Nx (upd H4 D (.lst (acc ++ [y]))) else Nx H3)
def kR1 (R : It → Hp → Prop) : List V → Hp → Prop := fun vs H1 => ∃ j : Int, vs = [.int j] ∧ -(2 ^ 62) ≤ j ∧ j < 2 ^ 62 ∧ R (Itr 0 j.toNat) H1
def kR2 (R : It → Hp → Prop) : List V → Hp → Prop := fun vs H1 => ∃ i j : Int, vs = [.int i, .int j] ∧ (-(2 ^ 62) ≤ i ∧ i < 2 ^ 62 ∧ -(2 ^ 62) ≤ j ∧ j < 2 ^ 62) ∧ R (Itr i (j - i).toNat) H1
def kIl (K : PySem.W.Frag) (R : It → Hp → Prop) : V → Hp → Prop := fun x H1 => ∃ a, x = .ref a ∧ (∃ xs, SqL K H1 a xs) ∧ R (Itl K a) H1
def kIt (K : PySem.W.Frag) (R : It → Hp → Prop) : V → Hp → Prop := fun x H1 => ∃ a, x = .ref a ∧ (∃ xs, SqT K H1 a xs) ∧ R (Itt K a) H1
def kFor (g : TG) (tb : TS) (D : Ends) (σ : L2.St) : It → Hp → Prop := fun J H1 => ∃ W : Nat → Nat → L2.St → Hp → Prop, (∃ m, W 0 m σ H1) ∧ ∀ i m σ H, W i m σ H →
  (J.stop i H ∧ D.nx σ H) ∨ (J.go i H ∧ ∃ N : L2.St → Hp → Prop, (∀ σ' H', N σ' H' → ∃ m', m' < m ∧ W (i + 1) m' σ' H') ∧ ∀ x H', J.yld i H x H' → g x σ H' fun σ2 H2 => tb { D with nx := N, ct := N, bk := D.nx } σ2 H2)
section
variable {σ : L2.St} {H : Hp} {D : Ends} {te : TE} {ta : TA} {g : TG} {tt : TT} {tb : TS} {wi : TI} {vs : List Nat} {Q : V → Hp → Prop} {R : It → Hp → Prop} {K : PySem.W.Frag} {a : Addr} {xs : List V} {i j : Int}
theorem r_lc (h : wi σ H (kLc g tt te vs σ Q)) : tLc wi g tt te vs σ H Q := h
theorem r_for (h : wi σ H (kFor g tb D σ)) : tFor wi g tb D σ H := h
theorem r_irng1 (h : ta σ H (kR1 R)) : iRng1 ta σ H R := h
theorem r_irng2 (h : ta σ H (kR2 R)) : iRng2 ta σ H R := h
theorem r_ilist (h : te σ H (kIl K R)) : iList K te σ H R := h
theorem r_itup (h : te σ H (kIt K R)) : iTup K te σ H R := h
theorem r_kR1 (h1 : -(2 ^ 62) ≤ j) (h2 : j < 2 ^ 62) (h : R (Itr 0 j.toNat) H) : kR1 R [.int j] H := ⟨j, rfl, h1, h2, h⟩
theorem r_kR2 (h1 : -(2 ^ 62) ≤ i ∧ i < 2 ^ 62 ∧ -(2 ^ 62) ≤ j ∧ j < 2 ^ 62) (h : R (Itr i (j - i).toNat) H) : kR2 R [.int i, .int j] H := ⟨i, j, rfl, h1, h⟩
theorem r_kIl (h1 : SqL K H a xs) (h : R (Itl K a) H) : kIl K R (.ref a) H := ⟨a, rfl, ⟨_, h1⟩, h⟩
theorem r_kIt (h1 : SqT K H a xs) (h : R (Itt K a) H) : kIt K R (.ref a) H := ⟨a, rfl, ⟨_, h1⟩, h⟩
theorem r_forR {lo : Int} {n : Nat} (Pv : Nat → L2.St → Hp → Prop) (h0 : Pv 0 σ H)
    (hs : ∀ i σ H, i < n → Pv i σ H → g (.int (lo + i)) σ H fun σ2 H2 => tb { D with nx := Pv (i + 1), ct := Pv (i + 1), bk := D.nx } σ2 H2) (hd : ∀ σ H, Pv n σ H → D.nx σ H) : kFor g tb D σ (Itr lo n) H := for_range Pv h0 hs hd
theorem r_forL (Pv : Nat → L2.St → Hp → Prop) (h0 : Pv 0 σ H) (hl : ∀ i σ H, i ≤ xs.length → Pv i σ H → SqL K H a xs)
    (hs : ∀ i x σ H, xs[i]? = some x → Pv i σ H → g x σ H fun σ2 H2 => tb { D with nx := Pv (i + 1), ct := Pv (i + 1), bk := D.nx } σ2 H2) (hd : ∀ σ H, Pv xs.length σ H → D.nx σ H) : kFor g tb D σ (Itl K a) H := for_list Pv h0 hl hs hd
theorem r_forT (Pv : Nat → L2.St → Hp → Prop) (h0 : Pv 0 σ H) (hl : ∀ i σ H, i ≤ xs.length → Pv i σ H → SqT K H a xs)
    (hs : ∀ i x σ H, xs[i]? = some x → Pv i σ H → g x σ H fun σ2 H2 => tb { D with nx := Pv (i + 1), ct := Pv (i + 1), bk := D.nx } σ2 H2) (hd : ∀ σ H, Pv xs.length σ H → D.nx σ H) : kFor g tb D σ (Itt K a) H := for_tup Pv h0 hl hs hd
/-- [e for x in range], e an int -/
theorem r_lcI {lo : Int} {n slot : Nat} (P : Nat → Int → Prop) (hn : n ≤ 100000) (hv : vs = [slot])
    (hs : ∀ (i : Nat) (H' : Hp), i < n → L2.Same H H' → ∀ R : V → Hp → Prop, (∀ z : Int, P i z → R (.int z) H') → te ((wipe σ vs).set slot (some (.int (lo + i)))) H' R)
    (q : ∀ (H' : Hp) (l : Addr) (zs : List Int), L2.Same H H' → H l = none → H' l = some (.lst (zs.map V.int)) → zs.length = n → (∀ (i : Nat) (z : Int), zs[i]? = some z → P i z) → Q (.ref l) H') :
    kLc (gName slot) tYes te vs σ Q (Itr lo n) H := by
  intro L hL
  have hw : ∀ (τ : L2.St) (x : V), wipe (τ.set slot (some x)) [slot] = wipe τ [slot] := fun τ x => by simp [wipe, List.set_set]
  have hw2 : wipe (wipe σ vs) vs = wipe σ vs := by subst hv; simp [wipe, List.set_set]
  refine lc_range (fun i H' => ∃ zs : List Int, zs.length = i ∧ H' L = some (.lst (zs.map V.int)) ∧ L2.Same H H' ∧ ∀ (k : Nat) (z : Int), zs[k]? = some z → P k z) ⟨[], rfl, upd_same, fun b o e => by rw [upd_ne (ne_of_none e hL)]; exact e, fun k z e => by simp at e⟩ ?_ ?_
  · rintro i H' hi ⟨zs, el, eL, s, hp⟩
    refine ⟨?_, ?_⟩
    · subst hv
      rw [hw]
      exact hw2
    · show te ((wipe σ vs).set slot (some (.int (lo + i)))) H' _
      refine hs i H' hi s _ fun z hz => ⟨_, eL, ?_, zs ++ [z], ?_, ?_, ?_, ?_⟩
      · rw [List.length_map, el]
        exact Nat.lt_of_lt_of_le (Nat.lt_of_lt_of_le hi hn) (by decide)
      · rw [List.length_append, el]; rfl
      · rw [upd_same, List.map_append]; rfl
      · intro b o e
        rw [upd_ne (ne_of_none e hL)]
        exact s _ _ e
      · intro k y e
        rw [List.getElem?_append] at e
        split at e
        · exact hp k y e
        · rename_i hk
          have ek : k = zs.length := by
            have := (List.getElem?_eq_some_iff.mp e).1
            simp at this
            omega
          subst ek
          simp at e
          rw [el, ← e]
          exact hz
  · rintro H' ⟨zs, el, eL, s, hp⟩
    exact q H' L zs s hL eL el hp
end
/-! named readings for texts, the lesser and the greater of two -/
def rLenS : List V → Hp → VK → Prop := fun xs H Q => ∃ z, xs = [.str z] ∧ z.length ≤ sizeLine ∧ Q (.int z.length) H
theorem c_lenS {X : Cx} : CallR X (.builtin "len") rLenS := call_len_str
def rMin2 : List V → Hp → VK → Prop := fun xs H Q => ∃ i j, xs = [.int i, .int j] ∧ Q (.int (if j < i then j else i)) H
theorem c_min2 {X : Cx} (hc : X.calm = true) : CallR X (.builtin "min") rMin2 := call_min2 hc
def rMax2 : List V → Hp → VK → Prop := fun xs H Q => ∃ i j, xs = [.int i, .int j] ∧ Q (.int (if j > i then j else i)) H
theorem c_max2 {X : Cx} (hc : X.calm = true) : CallR X (.builtin "max") rMax2 := call_max2 hc
def rAddT : R2 := fun x y H Q => ∃ i j, x = .str i ∧ y = .str j ∧ i.length + j.length ≤ sizeLine ∧ Q (.str (i ++ j)) H
theorem op_addT {X : Cx} : OpR X (binaryOp .Add) rAddT := op_add_str
section
variable {H : Hp} {Q : V → Hp → Prop} {z y : Str} {i j : Int}
theorem r_lenS (hl : z.length ≤ 1000000) (q : Q (.int z.length) H) : rLenS [.str z] H Q := ⟨z, rfl, by rw [sz]; omega, q⟩
theorem r_min2 (q : ∀ m : Int, m ≤ i → m ≤ j → m = i ∨ m = j → Q (.int m) H) : rMin2 [.int i, .int j] H Q := ⟨i, j, rfl, by split <;> exact q _ (by omega) (by omega) (by omega)⟩
theorem r_max2 (q : ∀ m : Int, i ≤ m → j ≤ m → m = i ∨ m = j → Q (.int m) H) : rMax2 [.int i, .int j] H Q := ⟨i, j, rfl, by split <;> exact q _ (by omega) (by omega) (by omega)⟩
theorem r_addT (hl : z.length + y.length ≤ 1000000) (q : Q (.str (z ++ y)) H) : rAddT (.str z) (.str y) H Q := ⟨z, y, rfl, rfl, by rw [sz]; omega, q⟩
end
def kIstr (R : It → Hp → Prop) : V → Hp → Prop := fun x H1 => ∃ z, x = .str z ∧ R (Its z) H1
theorem r_istr {te : TE} {σ : L2.St} {H : Hp} {R : It → Hp → Prop} (h : te σ H (kIstr R)) : iStr te σ H R := h
theorem r_kIs {z : Str} {H : Hp} {R : It → Hp → Prop} (h : R (Its z) H) : kIstr R (.str z) H := ⟨z, rfl, h⟩
end Sg
/-! data behind values, as the heap grows -/
namespace Sg
open PySem L2
mutual
theorem Dp.mono {K : PySem.W.Frag} {H H' : Hp} (s : L2.Same H H') : ∀ (d : PyData) (v : V), Dp K H v d → Dp K H' v d
  | .none, _, h => by cases h; exact .non
  | .bool b, _, h => by cases h; exact .bl b
  | .int i, _, h => by cases h; exact .int i
  | .str x, _, h => by cases h; exact .str x
  | .list ds, _, h => by
    cases h with
    | lst hs ha => exact .lst (L2.Same.seq s hs) (DpAll.mono s ds _ ha)
  | .tuple ds, _, h => by
    cases h with
    | tup hs ha => exact .tup (Sg.Same.tup s hs) (DpAll.mono s ds _ ha)
  | .dict _, _, h => by cases h
theorem DpAll.mono {K : PySem.W.Frag} {H H' : Hp} (s : L2.Same H H') : ∀ (ds : List PyData) (vs : List V), DpAll K H vs ds → DpAll K H' vs ds
  | [], _, h => by cases h; exact .nil
  | d :: ds, _, h => by
    cases h with
    | cons h1 h2 => exact .cons (Dp.mono s d _ h1) (DpAll.mono s ds _ h2)
end
theorem DpAll.ints {K : PySem.W.Frag} {H : Hp} : ∀ ns : List Int, DpAll K H (ns.map V.int) (ns.map PyData.int)
  | [] => .nil
  | n :: ns => .cons (.int n) (DpAll.ints ns)
theorem DpAll.at {K : PySem.W.Frag} {H : Hp} : ∀ {vs : List V} {ds : List PyData}, DpAll K H vs ds → ∀ (i : Nat) (v : V), vs[i]? = some v → ∃ d, ds[i]? = some d ∧ Dp K H v d
  | _, _, .nil, i, v, e => by simp at e
  | _, _, .cons h t, 0, v, e => by simp at e; subst e; exact ⟨_, rfl, h⟩
  | _, _, .cons h t, i + 1, v, e => by
    obtain ⟨d, e1, h1⟩ := DpAll.at t i v (by simpa using e)
    exact ⟨d, by simpa using e1, h1⟩
theorem DpAll.length {K : PySem.W.Frag} {H : Hp} : ∀ {vs : List V} {ds : List PyData}, DpAll K H vs ds → vs.length = ds.length
  | _, _, .nil => rfl
  | _, _, .cons _ t => by simp [DpAll.length t]
/-- data that can be compared, at most n deep -/
def Fl (n : Nat) (d : PyData) : Prop := d.canLay0 = true ∧ d.depth ≤ n
theorem Fl.int (i : Int) (n : Nat) : Fl n (.int i) := ⟨by simp [PyData.canLay0], by simp [PyData.depth]⟩
theorem Fl.non (n : Nat) : Fl n .none := ⟨by simp [PyData.canLay0], by simp [PyData.depth]⟩
theorem Fl.bool (b : Bool) (n : Nat) : Fl n (.bool b) := ⟨by simp [PyData.canLay0], by simp [PyData.depth]⟩
theorem Fl.all {n : Nat} : ∀ {ds : List PyData}, (∀ d ∈ ds, Fl n d) → PyData.canLayAll0 ds = true ∧ PyData.depthAll ds ≤ n
  | [], _ => ⟨by simp [PyData.canLayAll0], by simp [PyData.depthAll]⟩
  | d :: ds, h => by
    obtain ⟨h1, h2⟩ := h d List.mem_cons_self
    obtain ⟨h3, h4⟩ := Fl.all (ds := ds) fun x hx => h x (List.mem_cons_of_mem _ hx)
    refine ⟨by simp [PyData.canLayAll0, h1, h3], ?_⟩
    simp only [PyData.depthAll]
    exact Nat.max_le.mpr ⟨h2, h4⟩
theorem Fl.tup {n : Nat} {ds : List PyData} (h : ∀ d ∈ ds, Fl n d) : Fl (n + 1) (.tuple ds) := by
  obtain ⟨h1, h2⟩ := Fl.all h
  exact ⟨by simp [PyData.canLay0, h1], by simp only [PyData.depth]; omega⟩
theorem Fl.lst {n : Nat} {ds : List PyData} (h : ∀ d ∈ ds, Fl n d) : Fl (n + 1) (.list ds) := by
  obtain ⟨h1, h2⟩ := Fl.all h
  exact ⟨by simp [PyData.canLay0, h1], by simp only [PyData.depth]; omega⟩
theorem Fl.mono {n m : Nat} {d : PyData} (h : Fl n d) (hm : n ≤ m) : Fl m d := ⟨h.1, Nat.le_trans h.2 hm⟩
theorem Fl.ints (ns : List Int) : Fl 1 (.tuple (ns.map PyData.int)) := Fl.tup fun d hd => by
  obtain ⟨i, _, rfl⟩ := List.mem_map.mp hd
  exact Fl.int i 0
theorem Fl.intl (ns : List Int) : Fl 1 (.list (ns.map PyData.int)) := Fl.lst fun d hd => by
  obtain ⟨i, _, rfl⟩ := List.mem_map.mp hd
  exact Fl.int i 0
theorem Fl.nil {n : Nat} : ∀ d ∈ ([] : List PyData), Fl n d := fun d h => by cases h
theorem Fl.cons {n : Nat} {d : PyData} {ds : List PyData} (h : Fl n d) (t : ∀ x ∈ ds, Fl n x) : ∀ x ∈ d :: ds, Fl n x := fun x hx => by
  rcases List.mem_cons.mp hx with rfl | hx
  · exact h
  · exact t x hx
theorem Fl.mapi {n : Nat} {ns : List Int} : ∀ d ∈ ns.map PyData.int, Fl n d := fun d hd => by
  obtain ⟨i, _, rfl⟩ := List.mem_map.mp hd
  exact Fl.int i n
theorem Fl.shaped {n : Nat} {d : PyData} (h : Fl n d) (hn : n ≤ 64 := by decide) : SeqAt.shaped d = true := by
  unfold SeqAt.shaped
  rw [h.1, decide_eq_true (Nat.le_trans h.2 hn)]
  rfl
theorem Fl.self {n : Nat} {d : PyData} (h : Fl n d) : PyData.eqv d d = true := SeqAt.eqv_refl d h.1
/-! lists of ints -/
theorem ixN_ok {n : Nat} {k : Int} (h0 : 0 ≤ k) (h1 : k < n) : ixN n k = some k.toNat := by unfold ixN; rw [if_pos h0, if_pos h1]
theorem at_ints {ts : List Int} {k : Int} (h0 : 0 ≤ k) (h1 : k < ts.length) : atI (ts.map V.int) k = some (.int (ts.getD k.toNat 0)) := by
  obtain ⟨n, rfl⟩ := Int.eq_ofNat_of_zero_le h0
  have hn : n < ts.length := by omega
  refine atI_nat ?_
  rw [List.getElem?_map, List.getElem?_eq_getElem hn, List.getD_eq_getElem?_getD, Int.toNat_natCast, List.getElem?_eq_getElem hn]
  rfl
theorem rep_ints (n : Nat) (z : Int) : (List.replicate n [V.int z]).flatten = (List.replicate n z).map V.int := by
  induction n with
  | zero => rfl
  | succ n ih => rw [List.replicate_succ, List.flatten_cons, ih, List.replicate_succ, List.map_cons]; rfl
theorem set_ints (ts : List Int) (n : Nat) (z : Int) : (ts.map V.int).set n (.int z) = (ts.set n z).map V.int := by rw [List.map_set]
theorem eqv_ints {as bs : List Int} : PyData.eqv (.list (as.map PyData.int)) (.list (bs.map PyData.int)) = decide (as = bs) := by
  rw [PyData.eqv]
  induction as generalizing bs with
  | nil => cases bs <;> simp [PyData.eqvAll]
  | cons a as ih =>
    cases bs with
    | nil => simp [PyData.eqvAll]
    | cons b bs =>
      rw [List.map_cons, List.map_cons, PyData.eqvAll, ih, PyData.eqv]
      by_cases e : a = b
      · subst e; simp
      · simp [e]
theorem Dp.ints {K : PySem.W.Frag} {H : Hp} {a : Addr} {ns : List Int} (h : SqL K H a (ns.map V.int)) : Dp K H (.ref a) (.list (ns.map PyData.int)) := .lst h (DpAll.ints ns)
theorem Fl.intlS (ns : List Int) : SeqAt.shaped (.list (ns.map PyData.int)) = true := (Fl.intl ns).shaped
/-! a comprehension over a list, its items anything -/
/-- the heap without the list that grows -/
def hid (D : Addr) (H : Hp) : Hp := fun b => if b = D then none else H b
theorem hid_ne {D b : Addr} {H : Hp} (h : b ≠ D) : hid D H b = H b := by unfold hid; rw [if_neg h]
theorem hid_at {D : Addr} {H : Hp} : hid D H D = none := by unfold hid; rw [if_pos rfl]
theorem hid_same {D : Addr} {H : Hp} : L2.Same (hid D H) H := fun b o e => by
  by_cases hb : b = D
  · rw [hb, hid_at] at e; cases e
  · rw [hid_ne hb] at e; exact e
theorem of_hid {D b : Addr} {H : Hp} {o : HO} (e : hid D H b = some o) : b ≠ D ∧ H b = some o := by
  by_cases hb : b = D
  · rw [hb, hid_at] at e; cases e
  · rw [hid_ne hb] at e; exact ⟨hb, e⟩
theorem same_hid {D : Addr} {H H' : Hp} (s : L2.Same H H') (n : H D = none) : L2.Same H (hid D H') := fun b o e => by
  rw [hid_ne (ne_of_none e n)]; exact s _ _ e
theorem hid_upd {D : Addr} {H : Hp} {o : HO} : hid D (upd H D o) = hid D H := by
  funext b
  by_cases hb : b = D
  · rw [hb, hid_at, hid_at]
  · rw [hid_ne hb, hid_ne hb, upd_ne hb]
theorem hid_none {D : Addr} {H : Hp} (n : H D = none) : hid D H = H := by
  funext b
  by_cases hb : b = D
  · rw [hb, hid_at, n]
  · rw [hid_ne hb]
theorem r_lcL {K : PySem.W.Frag} {a : Addr} {xs : List V} {slot : Nat} {vs : List Nat} {te : TE} {σ : L2.St} {H : Hp} {Q : V → Hp → Prop} (P : Nat → List V → Hp → Prop) (hx : SqL K H a xs) (hn : xs.length ≤ 100000) (hv : vs = [slot])
    (h0 : P 0 [] H)
    (hs : ∀ (i : Nat) (x : V) (acc : List V) (H0 H' : Hp), xs[i]? = some x → L2.Same H H0 → P i acc H0 → L2.Same H0 H' → ∀ R : V → Hp → Prop,
      (∀ (v : V) (H'' : Hp), L2.Same H' H'' → (∀ D, H0 D = none → H' D ≠ none → P (i + 1) (acc ++ [v]) (hid D H'')) → R v H'') → te ((wipe σ vs).set slot (some x)) H' R)
    (q : ∀ (H' : Hp) (l : Addr) (acc : List V), L2.Same H H' → H l = none → H' l = some (.lst acc) → acc.length = xs.length → P xs.length acc (hid l H') → Q (.ref l) H') :
    kLc (gName slot) tYes te vs σ Q (Itl K a) H := by
  intro L hL
  have hw : ∀ (τ : L2.St) (x : V), wipe (τ.set slot (some x)) [slot] = wipe τ [slot] := fun τ x => by simp [wipe, List.set_set]
  have hw2 : wipe (wipe σ vs) vs = wipe σ vs := by subst hv; simp [wipe, List.set_set]
  refine lc_list (xs := xs) (fun i H' => ∃ acc : List V, acc.length = i ∧ H' L = some (.lst acc) ∧ L2.Same H H' ∧ P i acc (hid L H')) ⟨[], rfl, upd_same, fun b o e => by rw [upd_ne (ne_of_none e hL)]; exact e, by rw [hid_upd, hid_none hL]; exact h0⟩ ?_ ?_ ?_
  · rintro i H' hi ⟨acc, _, _, s, _⟩
    exact s.seq hx
  · rintro i x H' hi ⟨acc, el, eL, s, hp⟩
    refine ⟨?_, ?_⟩
    · subst hv
      rw [hw]
      exact hw2
    · show te ((wipe σ vs).set slot (some x)) H' _
      refine hs i x acc (hid L H') H' hi (same_hid s hL) hp hid_same _ fun v H'' s2 hP => ⟨acc, s2 _ _ eL, ?_, acc ++ [v], ?_, upd_same, ?_, ?_⟩
      · have := (List.getElem?_eq_some_iff.mp hi).1
        rw [el, sz]
        omega
      · rw [List.length_append, el]; rfl
      · intro b o e
        rw [upd_ne (ne_of_none e hL)]
        exact s2 _ _ (s _ _ e)
      · rw [hid_upd]
        exact hP L hid_at (by rw [eL]; intro z; cases z)
  · rintro H' ⟨acc, el, eL, s, hp⟩
    exact q H' L acc s hL eL el hp
end Sg
namespace Sg
open PySem L2
def top (i : Nat) : Stmt := PySem.Challenge.pw_segmentfs_k25_reports_of_segments.main.body.getD i (.Pass ⟨0, 0, 0, 0⟩)
abbrev s_Layout___init : Stmt := inClass (top 7) 0
abbrev s_address_at : Stmt := top 8
abbrev s_segment_of : Stmt := top 9
abbrev s_region_start : Stmt := top 10
abbrev s_parts_of : Stmt := top 11
abbrev s_is_payload : Stmt := top 18
abbrev s_payload_of : Stmt := top 19
abbrev s_stamped : Stmt := top 20
abbrev s_Counts___init : Stmt := inClass (top 22) 0
abbrev s_empty_table : Stmt := top 24
abbrev s_copy_of_table : Stmt := top 25
abbrev s_commit_to_table : Stmt := top 26
abbrev s_slots_after : Stmt := top 27
abbrev s_move_in_table : Stmt := top 28
abbrev s_Log___init : Stmt := inClass (top 30) 0
abbrev s_payload_at : Stmt := top 31
abbrev s_live_addresses : Stmt := top 32
abbrev s_append_commit : Stmt := top 33
abbrev s_append_move : Stmt := top 34
abbrev s_sync_log : Stmt := top 35
abbrev s_enter_next_segment : Stmt := top 36
abbrev s_listed_in : Stmt := top 37
abbrev s_take_batch : Stmt := top 38
abbrev s_write_batch : Stmt := top 39
abbrev s_live_counts : Stmt := top 41
abbrev s_ages : Stmt := top 42
abbrev s_segment_rows : Stmt := top 43
abbrev s_candidates : Stmt := top 44
abbrev s_condition : Stmt := top 45
abbrev s_Device___init : Stmt := inClass (top 47) 0
abbrev s_Device_read : Stmt := inClass (top 47) 1
abbrev s_Device_write : Stmt := inClass (top 47) 2
abbrev s_Device_barrier : Stmt := inClass (top 47) 3
abbrev s_Device_pending : Stmt := inClass (top 47) 6
abbrev s_Device_written_blocks : Stmt := inClass (top 47) 9
abbrev s_Device__takes_place : Stmt := inClass (top 47) 11
abbrev s_put_block : Stmt := top 48
abbrev s_filled : Stmt := top 50
abbrev s_pieces : Stmt := top 51
abbrev s_checkpoint_numbers : Stmt := top 53
abbrev s_write_checkpoint : Stmt := top 54
abbrev s_slot_numbers : Stmt := top 55
abbrev s_segments_to_free : Stmt := top 56
abbrev s_new_log : Stmt := top 58
abbrev s_victims : Stmt := top 60
abbrev s_cargo : Stmt := top 61
abbrev s_fill : Stmt := top 62
abbrev s_law_row : Stmt := top 64
abbrev s_law_digits : Stmt := top 65
abbrev s_law_layout : Stmt := top 66
abbrev s_law_after : Stmt := top 68
abbrev s_law_payloads : Stmt := top 69
abbrev s_law_ids : Stmt := top 70
abbrev s_law_used : Stmt := top 71
abbrev s_law_live : Stmt := top 72
abbrev s_law_deed : Stmt := top 73
abbrev s_law_rows : Stmt := top 74
abbrev s_law_candidates : Stmt := top 75
abbrev s_law : Stmt := top 76
abbrev n_Layout___init : List Str := ["self", "segments", "segment_blocks", "block_size"]
theorem sc_Layout___init : FnScope n_Layout___init ["self", "segments", "segment_blocks", "block_size"] (defScope s_Layout___init) := ⟨rfl, rfl, rfl, by decide +kernel, rfl, by decide +kernel, by decide +kernel⟩
abbrev n_address_at : List Str := ["layout", "segment", "place"]
theorem sc_address_at : FnScope n_address_at ["layout", "segment", "place"] (defScope s_address_at) := ⟨rfl, rfl, rfl, by decide +kernel, rfl, by decide +kernel, by decide +kernel⟩
abbrev n_segment_of : List Str := ["layout", "address", "start"]
theorem sc_segment_of : FnScope n_segment_of ["layout", "address"] (defScope s_segment_of) := ⟨rfl, rfl, rfl, by decide +kernel, rfl, by decide +kernel, by decide +kernel⟩
abbrev n_region_start : List Str := ["layout", "region"]
theorem sc_region_start : FnScope n_region_start ["layout", "region"] (defScope s_region_start) := ⟨rfl, rfl, rfl, by decide +kernel, rfl, by decide +kernel, by decide +kernel⟩
abbrev n_parts_of : List Str := ["number", "size"]
theorem sc_parts_of : FnScope n_parts_of ["number", "size"] (defScope s_parts_of) := ⟨rfl, rfl, rfl, by decide +kernel, rfl, by decide +kernel, by decide +kernel⟩
abbrev n_is_payload : List Str := ["block"]
theorem sc_is_payload : FnScope n_is_payload ["block"] (defScope s_is_payload) := ⟨rfl, rfl, rfl, by decide +kernel, rfl, by decide +kernel, by decide +kernel⟩
abbrev n_payload_of : List Str := ["block"]
theorem sc_payload_of : FnScope n_payload_of ["block"] (defScope s_payload_of) := ⟨rfl, rfl, rfl, by decide +kernel, rfl, by decide +kernel, by decide +kernel⟩
abbrev n_stamped : List Str := ["payload", "sequence", "rank"]
theorem sc_stamped : FnScope n_stamped ["payload", "sequence", "rank"] (defScope s_stamped) := ⟨rfl, rfl, rfl, by decide +kernel, rfl, by decide +kernel, by decide +kernel⟩
abbrev n_Counts___init : List Str := ["self"]
theorem sc_Counts___init : FnScope n_Counts___init ["self"] (defScope s_Counts___init) := ⟨rfl, rfl, rfl, by decide +kernel, rfl, by decide +kernel, by decide +kernel⟩
abbrev n_empty_table : List Str := ["layout"]
theorem sc_empty_table : FnScope n_empty_table ["layout"] (defScope s_empty_table) := ⟨rfl, rfl, rfl, by decide +kernel, rfl, by decide +kernel, by decide +kernel⟩
abbrev n_copy_of_table : List Str := ["table"]
theorem sc_copy_of_table : FnScope n_copy_of_table ["table"] (defScope s_copy_of_table) := ⟨rfl, rfl, rfl, by decide +kernel, rfl, by decide +kernel, by decide +kernel⟩
abbrev n_commit_to_table : List Str := ["table", "start", "ids", "used", "in_use", "changed", "place", "ident", "address"]
theorem sc_commit_to_table : FnScope n_commit_to_table ["table", "start", "ids", "used"] (defScope s_commit_to_table) := ⟨rfl, rfl, rfl, by decide +kernel, rfl, by decide +kernel, by decide +kernel⟩
abbrev n_slots_after : List Str := ["slots", "table", "action", "changed", "slot"]
theorem sc_slots_after : FnScope n_slots_after ["slots", "table", "action"] (defScope s_slots_after) := ⟨rfl, rfl, rfl, by decide +kernel, rfl, by decide +kernel, by decide +kernel⟩
abbrev n_move_in_table : List Str := ["table", "start", "addresses", "moved", "place", "address"]
theorem sc_move_in_table : FnScope n_move_in_table ["table", "start", "addresses"] (defScope s_move_in_table) := ⟨rfl, rfl, rfl, by decide +kernel, rfl, by decide +kernel, by decide +kernel⟩
abbrev n_Log___init : List Str := ["self", "device"]
theorem sc_Log___init : FnScope n_Log___init ["self", "device"] (defScope s_Log___init) := ⟨rfl, rfl, rfl, by decide +kernel, rfl, by decide +kernel, by decide +kernel⟩
abbrev n_payload_at : List Str := ["log", "address"]
theorem sc_payload_at : FnScope n_payload_at ["log", "address"] (defScope s_payload_at) := ⟨rfl, rfl, rfl, by decide +kernel, rfl, by decide +kernel, by decide +kernel⟩
abbrev n_live_addresses : List Str := ["log", "addresses", "slot", "address"]
theorem sc_live_addresses : FnScope n_live_addresses ["log"] (defScope s_live_addresses) := ⟨rfl, rfl, rfl, by decide +kernel, rfl, by decide +kernel, by decide +kernel⟩
abbrev n_append_commit : List Str := ["log", "ids", "payloads", "used", "action", "counts"]
theorem sc_append_commit : FnScope n_append_commit ["log", "ids", "payloads", "used", "action"] (defScope s_append_commit) := ⟨rfl, rfl, rfl, by decide +kernel, rfl, by decide +kernel, by decide +kernel⟩
abbrev n_append_move : List Str := ["log", "addresses", "payloads", "counts", "address"]
theorem sc_append_move : FnScope n_append_move ["log", "addresses"] (defScope s_append_move) := ⟨rfl, rfl, rfl, by decide +kernel, rfl, by decide +kernel, by decide +kernel⟩
abbrev n_sync_log : List Str := ["log", "counts"]
theorem sc_sync_log : FnScope n_sync_log ["log"] (defScope s_sync_log) := ⟨rfl, rfl, rfl, by decide +kernel, rfl, by decide +kernel, by decide +kernel⟩
abbrev n_enter_next_segment : List Str := ["log"]
theorem sc_enter_next_segment : FnScope n_enter_next_segment ["log"] (defScope s_enter_next_segment) := ⟨rfl, rfl, rfl, by decide +kernel, rfl, by decide +kernel, by decide +kernel⟩
abbrev n_listed_in : List Str := ["summary"]
theorem sc_listed_in : FnScope n_listed_in ["summary"] (defScope s_listed_in) := ⟨rfl, rfl, rfl, by decide +kernel, rfl, by decide +kernel, by decide +kernel⟩
abbrev n_take_batch : List Str := ["log", "summary", "start", "ids", "used", "action", "slot"]
theorem sc_take_batch : FnScope n_take_batch ["log", "summary"] (defScope s_take_batch) := ⟨rfl, rfl, rfl, by decide +kernel, rfl, by decide +kernel, by decide +kernel⟩
abbrev n_write_batch : List Str := ["log", "summary", "payloads", "start", "rank", "payload"]
theorem sc_write_batch : FnScope n_write_batch ["log", "summary", "payloads"] (defScope s_write_batch) := ⟨rfl, rfl, rfl, by decide +kernel, rfl, by decide +kernel, by decide +kernel⟩
abbrev n_live_counts : List Str := ["log", "counts", "address", "segment"]
theorem sc_live_counts : FnScope n_live_counts ["log"] (defScope s_live_counts) := ⟨rfl, rfl, rfl, by decide +kernel, rfl, by decide +kernel, by decide +kernel⟩
abbrev n_ages : List Str := ["log", "newest", "address", "block", "segment", "sequence"]
theorem sc_ages : FnScope n_ages ["log"] (defScope s_ages) := ⟨rfl, rfl, rfl, by decide +kernel, rfl, by decide +kernel, by decide +kernel⟩
abbrev n_segment_rows : List Str := ["log", "rows", "segment", "live", "age"]
theorem sc_segment_rows : FnScope n_segment_rows ["log"] (defScope s_segment_rows) := ⟨rfl, rfl, rfl, by decide +kernel, rfl, by decide +kernel, by decide +kernel⟩
abbrev n_candidates : List Str := ["log", "segment", "live"]
theorem sc_candidates : FnScope n_candidates ["log"] (defScope s_candidates) := ⟨rfl, rfl, rfl, by decide +kernel, rfl, by decide +kernel, by decide +kernel⟩
abbrev n_condition : List Str := ["log", "segment"]
theorem sc_condition : FnScope n_condition ["log", "segment"] (defScope s_condition) := ⟨rfl, rfl, rfl, by decide +kernel, rfl, by decide +kernel, by decide +kernel⟩
abbrev n_Device___init : List Str := ["self", "layout", "blocks"]
theorem sc_Device___init : FnScope n_Device___init ["self", "layout", "blocks"] (defScope s_Device___init) := ⟨rfl, rfl, rfl, by decide +kernel, rfl, by decide +kernel, by decide +kernel⟩
abbrev n_Device_read : List Str := ["self", "address"]
theorem sc_Device_read : FnScope n_Device_read ["self", "address"] (defScope s_Device_read) := ⟨rfl, rfl, rfl, by decide +kernel, rfl, by decide +kernel, by decide +kernel⟩
abbrev n_Device_write : List Str := ["self", "address", "block"]
theorem sc_Device_write : FnScope n_Device_write ["self", "address", "block"] (defScope s_Device_write) := ⟨rfl, rfl, rfl, by decide +kernel, rfl, by decide +kernel, by decide +kernel⟩
abbrev n_Device_barrier : List Str := ["self", "address", "block"]
theorem sc_Device_barrier : FnScope n_Device_barrier ["self"] (defScope s_Device_barrier) := ⟨rfl, rfl, rfl, by decide +kernel, rfl, by decide +kernel, by decide +kernel⟩
abbrev n_Device_pending : List Str := ["self"]
theorem sc_Device_pending : FnScope n_Device_pending ["self"] (defScope s_Device_pending) := ⟨rfl, rfl, rfl, by decide +kernel, rfl, by decide +kernel, by decide +kernel⟩
abbrev n_Device_written_blocks : List Str := ["self", "address", "block"]
theorem sc_Device_written_blocks : GScope n_Device_written_blocks ["self"] (defScope s_Device_written_blocks) := ⟨rfl, rfl, rfl, by decide +kernel, rfl, by decide +kernel, by decide +kernel⟩
abbrev n_Device__takes_place : List Str := ["self"]
theorem sc_Device__takes_place : FnScope n_Device__takes_place ["self"] (defScope s_Device__takes_place) := ⟨rfl, rfl, rfl, by decide +kernel, rfl, by decide +kernel, by decide +kernel⟩
abbrev n_put_block : List Str := ["blocks", "address", "block"]
theorem sc_put_block : FnScope n_put_block ["blocks", "address", "block"] (defScope s_put_block) := ⟨rfl, rfl, rfl, by decide +kernel, rfl, by decide +kernel, by decide +kernel⟩
abbrev n_filled : List Str := ["numbers", "count"]
theorem sc_filled : FnScope n_filled ["numbers", "count"] (defScope s_filled) := ⟨rfl, rfl, rfl, by decide +kernel, rfl, by decide +kernel, by decide +kernel⟩
abbrev n_pieces : List Str := ["numbers", "size", "start"]
theorem sc_pieces : FnScope n_pieces ["numbers", "size"] (defScope s_pieces) := ⟨rfl, rfl, rfl, by decide +kernel, rfl, by decide +kernel, by decide +kernel⟩
abbrev n_checkpoint_numbers : List Str := ["log", "numbers", "slot"]
theorem sc_checkpoint_numbers : FnScope n_checkpoint_numbers ["log"] (defScope s_checkpoint_numbers) := ⟨rfl, rfl, rfl, by decide +kernel, rfl, by decide +kernel, by decide +kernel⟩
abbrev n_write_checkpoint : List Str := ["log", "start", "rank", "numbers", "counts"]
theorem sc_write_checkpoint : FnScope n_write_checkpoint ["log"] (defScope s_write_checkpoint) := ⟨rfl, rfl, rfl, by decide +kernel, rfl, by decide +kernel, by decide +kernel⟩
abbrev n_slot_numbers : List Str := ["layout", "slot"]
theorem sc_slot_numbers : FnScope n_slot_numbers ["layout", "slot"] (defScope s_slot_numbers) := ⟨rfl, rfl, rfl, by decide +kernel, rfl, by decide +kernel, by decide +kernel⟩
abbrev n_segments_to_free : List Str := ["log", "kept", "address", "segment"]
theorem sc_segments_to_free : FnScope n_segments_to_free ["log"] (defScope s_segments_to_free) := ⟨rfl, rfl, rfl, by decide +kernel, rfl, by decide +kernel, by decide +kernel⟩
abbrev n_new_log : List Str := ["device", "log"]
theorem sc_new_log : FnScope n_new_log ["device"] (defScope s_new_log) := ⟨rfl, rfl, rfl, by decide +kernel, rfl, by decide +kernel, by decide +kernel⟩
abbrev n_victims : List Str := ["log", "order", "found", "chosen", "segment"]
theorem sc_victims : FnScope n_victims ["log", "order"] (defScope s_victims) := ⟨rfl, rfl, rfl, by decide +kernel, rfl, by decide +kernel, by decide +kernel⟩
abbrev n_cargo : List Str := ["log", "order", "live", "addresses", "victim", "address"]
theorem sc_cargo : FnScope n_cargo ["log", "order"] (defScope s_cargo) := ⟨rfl, rfl, rfl, by decide +kernel, rfl, by decide +kernel, by decide +kernel⟩
abbrev n_fill : List Str := ["log", "order", "addresses"]
theorem sc_fill : FnScope n_fill ["log", "order"] (defScope s_fill) := ⟨rfl, rfl, rfl, by decide +kernel, rfl, by decide +kernel, by decide +kernel⟩
abbrev n_law_row : List Str := ["script", "k", "cell", "first", "second"]
theorem sc_law_row : FnScope n_law_row ["script", "k"] (defScope s_law_row) := ⟨rfl, rfl, rfl, by decide +kernel, rfl, by decide +kernel, by decide +kernel⟩
abbrev n_law_digits : List Str := ["row", "sizes", "digits", "size"]
theorem sc_law_digits : FnScope n_law_digits ["row", "sizes"] (defScope s_law_digits) := ⟨rfl, rfl, rfl, by decide +kernel, rfl, by decide +kernel, by decide +kernel⟩
abbrev n_law_layout : List Str := ["row", "choice", "more", "size", "segments", "blocks", "ids"]
theorem sc_law_layout : FnScope n_law_layout ["row"] (defScope s_law_layout) := ⟨rfl, rfl, rfl, by decide +kernel, rfl, by decide +kernel, by decide +kernel⟩
abbrev n_law_after : List Str := ["state", "ids", "payloads", "used", "action", "present", "key", "after"]
theorem sc_law_after : FnScope n_law_after ["state", "ids", "payloads", "used", "action"] (defScope s_law_after) := ⟨rfl, rfl, rfl, by decide +kernel, rfl, by decide +kernel, by decide +kernel⟩
abbrev n_law_payloads : List Str := ["layout", "row", "count", "payloads", "k", "kind", "value", "at"]
theorem sc_law_payloads : FnScope n_law_payloads ["layout", "row", "count"] (defScope s_law_payloads) := ⟨rfl, rfl, rfl, by decide +kernel, rfl, by decide +kernel, by decide +kernel⟩
abbrev n_law_ids : List Str := ["layout", "row", "last", "size", "many", "more", "near", "first", "step", "span", "ids", "k", "key"]
theorem sc_law_ids : FnScope n_law_ids ["layout", "row"] (defScope s_law_ids) := ⟨rfl, rfl, rfl, by decide +kernel, rfl, by decide +kernel, by decide +kernel⟩
abbrev n_law_used : List Str := ["layout", "known", "ids", "drop", "used", "key"]
theorem sc_law_used : FnScope n_law_used ["layout", "known", "ids", "drop"] (defScope s_law_used) := ⟨rfl, rfl, rfl, by decide +kernel, rfl, by decide +kernel, by decide +kernel⟩
abbrev n_law_live : List Str := ["log", "found", "table", "address"]
theorem sc_law_live : FnScope n_law_live ["log"] (defScope s_law_live) := ⟨rfl, rfl, rfl, by decide +kernel, rfl, by decide +kernel, by decide +kernel⟩
abbrev n_law_deed : List Str := ["layout", "log", "state", "script", "k", "row", "kind", "action", "drop", "size", "start", "ids", "payloads", "used", "live", "j"]
theorem sc_law_deed : FnScope n_law_deed ["layout", "log", "state", "script", "k"] (defScope s_law_deed) := ⟨rfl, rfl, rfl, by decide +kernel, rfl, by decide +kernel, by decide +kernel⟩
abbrev n_law_rows : List Str := ["layout", "log", "size", "live", "address", "at", "rows", "segment", "newest", "place", "block", "condition"]
theorem sc_law_rows : FnScope n_law_rows ["layout", "log"] (defScope s_law_rows) := ⟨rfl, rfl, rfl, by decide +kernel, rfl, by decide +kernel, by decide +kernel⟩
abbrev n_law_candidates : List Str := ["layout", "rows", "k"]
theorem sc_law_candidates : FnScope n_law_candidates ["layout", "rows"] (defScope s_law_candidates) := ⟨rfl, rfl, rfl, by decide +kernel, rfl, by decide +kernel, by decide +kernel⟩
abbrev n_law : List Str := ["script", "layout", "log", "state", "k", "rows", "told", "row"]
theorem sc_law : FnScope n_law ["script"] (defScope s_law) := ⟨rfl, rfl, rfl, by decide +kernel, rfl, by decide +kernel, by decide +kernel⟩
structure Txt (K : PySem.W.Frag) (mg : Str → Option Value) where
  a_Layout___init : Addr
  fd_Layout___init : FuncData
  a_address_at : Addr
  fd_address_at : FuncData
  a_segment_of : Addr
  fd_segment_of : FuncData
  a_region_start : Addr
  fd_region_start : FuncData
  a_parts_of : Addr
  fd_parts_of : FuncData
  a_is_payload : Addr
  fd_is_payload : FuncData
  a_payload_of : Addr
  fd_payload_of : FuncData
  a_stamped : Addr
  fd_stamped : FuncData
  a_Counts___init : Addr
  fd_Counts___init : FuncData
  a_empty_table : Addr
  fd_empty_table : FuncData
  a_copy_of_table : Addr
  fd_copy_of_table : FuncData
  a_commit_to_table : Addr
  fd_commit_to_table : FuncData
  a_slots_after : Addr
  fd_slots_after : FuncData
  a_move_in_table : Addr
  fd_move_in_table : FuncData
  a_Log___init : Addr
  fd_Log___init : FuncData
  a_payload_at : Addr
  fd_payload_at : FuncData
  a_live_addresses : Addr
  fd_live_addresses : FuncData
  a_append_commit : Addr
  fd_append_commit : FuncData
  a_append_move : Addr
  fd_append_move : FuncData
  a_sync_log : Addr
  fd_sync_log : FuncData
  a_enter_next_segment : Addr
  fd_enter_next_segment : FuncData
  a_listed_in : Addr
  fd_listed_in : FuncData
  a_take_batch : Addr
  fd_take_batch : FuncData
  a_write_batch : Addr
  fd_write_batch : FuncData
  a_live_counts : Addr
  fd_live_counts : FuncData
  a_ages : Addr
  fd_ages : FuncData
  a_segment_rows : Addr
  fd_segment_rows : FuncData
  a_candidates : Addr
  fd_candidates : FuncData
  a_condition : Addr
  fd_condition : FuncData
  a_Device___init : Addr
  fd_Device___init : FuncData
  a_Device_read : Addr
  fd_Device_read : FuncData
  a_Device_write : Addr
  fd_Device_write : FuncData
  a_Device_barrier : Addr
  fd_Device_barrier : FuncData
  a_Device_pending : Addr
  fd_Device_pending : FuncData
  a_Device_written_blocks : Addr
  fd_Device_written_blocks : FuncData
  a_Device__takes_place : Addr
  fd_Device__takes_place : FuncData
  a_put_block : Addr
  fd_put_block : FuncData
  a_filled : Addr
  fd_filled : FuncData
  a_pieces : Addr
  fd_pieces : FuncData
  a_checkpoint_numbers : Addr
  fd_checkpoint_numbers : FuncData
  a_write_checkpoint : Addr
  fd_write_checkpoint : FuncData
  a_slot_numbers : Addr
  fd_slot_numbers : FuncData
  a_segments_to_free : Addr
  fd_segments_to_free : FuncData
  a_new_log : Addr
  fd_new_log : FuncData
  a_victims : Addr
  fd_victims : FuncData
  a_cargo : Addr
  fd_cargo : FuncData
  a_fill : Addr
  fd_fill : FuncData
  a_law_row : Addr
  fd_law_row : FuncData
  a_law_digits : Addr
  fd_law_digits : FuncData
  a_law_layout : Addr
  fd_law_layout : FuncData
  a_law_after : Addr
  fd_law_after : FuncData
  a_law_payloads : Addr
  fd_law_payloads : FuncData
  a_law_ids : Addr
  fd_law_ids : FuncData
  a_law_used : Addr
  fd_law_used : FuncData
  a_law_live : Addr
  fd_law_live : FuncData
  a_law_deed : Addr
  fd_law_deed : FuncData
  a_law_rows : Addr
  fd_law_rows : FuncData
  a_law_candidates : Addr
  fd_law_candidates : FuncData
  a_law : Addr
  fd_law : FuncData
  A_Layout : Addr
  A_Counts : Addr
  A_Log : Addr
  A_Device : Addr
  a_BLOCK_SIZES : Addr
  t_COMMIT : Tok
  t_DATA : Tok
  t_MOVE : Tok
  t_NODE : Tok
  t_PART : Tok
  t_SUMMARY_HEAD : Tok
  F_Layout___init : Fun K "__init__" "Layout.__init__" s_Layout___init a_Layout___init fd_Layout___init
  b_Layout___init : Binds K fd_Layout___init ["self", "segments", "segment_blocks", "block_size"] []
  F_address_at : Fun K "address_at" "address_at" s_address_at a_address_at fd_address_at
  b_address_at : Binds K fd_address_at ["layout", "segment", "place"] []
  m_address_at : mg "address_at" = some (.ref a_address_at)
  F_segment_of : Fun K "segment_of" "segment_of" s_segment_of a_segment_of fd_segment_of
  b_segment_of : Binds K fd_segment_of ["layout", "address"] []
  m_segment_of : mg "segment_of" = some (.ref a_segment_of)
  F_region_start : Fun K "region_start" "region_start" s_region_start a_region_start fd_region_start
  b_region_start : Binds K fd_region_start ["layout", "region"] []
  m_region_start : mg "region_start" = some (.ref a_region_start)
  F_parts_of : Fun K "parts_of" "parts_of" s_parts_of a_parts_of fd_parts_of
  b_parts_of : Binds K fd_parts_of ["number", "size"] []
  m_parts_of : mg "parts_of" = some (.ref a_parts_of)
  F_is_payload : Fun K "is_payload" "is_payload" s_is_payload a_is_payload fd_is_payload
  b_is_payload : Binds K fd_is_payload ["block"] []
  m_is_payload : mg "is_payload" = some (.ref a_is_payload)
  F_payload_of : Fun K "payload_of" "payload_of" s_payload_of a_payload_of fd_payload_of
  b_payload_of : Binds K fd_payload_of ["block"] []
  m_payload_of : mg "payload_of" = some (.ref a_payload_of)
  F_stamped : Fun K "stamped" "stamped" s_stamped a_stamped fd_stamped
  b_stamped : Binds K fd_stamped ["payload", "sequence", "rank"] []
  m_stamped : mg "stamped" = some (.ref a_stamped)
  F_Counts___init : Fun K "__init__" "Counts.__init__" s_Counts___init a_Counts___init fd_Counts___init
  b_Counts___init : Binds K fd_Counts___init ["self"] []
  F_empty_table : Fun K "empty_table" "empty_table" s_empty_table a_empty_table fd_empty_table
  b_empty_table : Binds K fd_empty_table ["layout"] []
  m_empty_table : mg "empty_table" = some (.ref a_empty_table)
  F_copy_of_table : Fun K "copy_of_table" "copy_of_table" s_copy_of_table a_copy_of_table fd_copy_of_table
  b_copy_of_table : Binds K fd_copy_of_table ["table"] []
  m_copy_of_table : mg "copy_of_table" = some (.ref a_copy_of_table)
  F_commit_to_table : Fun K "commit_to_table" "commit_to_table" s_commit_to_table a_commit_to_table fd_commit_to_table
  b_commit_to_table : Binds K fd_commit_to_table ["table", "start", "ids", "used"] []
  m_commit_to_table : mg "commit_to_table" = some (.ref a_commit_to_table)
  F_slots_after : Fun K "slots_after" "slots_after" s_slots_after a_slots_after fd_slots_after
  b_slots_after : Binds K fd_slots_after ["slots", "table", "action"] []
  m_slots_after : mg "slots_after" = some (.ref a_slots_after)
  F_move_in_table : Fun K "move_in_table" "move_in_table" s_move_in_table a_move_in_table fd_move_in_table
  b_move_in_table : Binds K fd_move_in_table ["table", "start", "addresses"] []
  m_move_in_table : mg "move_in_table" = some (.ref a_move_in_table)
  F_Log___init : Fun K "__init__" "Log.__init__" s_Log___init a_Log___init fd_Log___init
  b_Log___init : Binds K fd_Log___init ["self", "device"] []
  F_payload_at : Fun K "payload_at" "payload_at" s_payload_at a_payload_at fd_payload_at
  b_payload_at : Binds K fd_payload_at ["log", "address"] []
  m_payload_at : mg "payload_at" = some (.ref a_payload_at)
  F_live_addresses : Fun K "live_addresses" "live_addresses" s_live_addresses a_live_addresses fd_live_addresses
  b_live_addresses : Binds K fd_live_addresses ["log"] []
  m_live_addresses : mg "live_addresses" = some (.ref a_live_addresses)
  F_append_commit : Fun K "append_commit" "append_commit" s_append_commit a_append_commit fd_append_commit
  b_append_commit : Binds K fd_append_commit ["log", "ids", "payloads", "used", "action"] []
  m_append_commit : mg "append_commit" = some (.ref a_append_commit)
  F_append_move : Fun K "append_move" "append_move" s_append_move a_append_move fd_append_move
  b_append_move : Binds K fd_append_move ["log", "addresses"] []
  m_append_move : mg "append_move" = some (.ref a_append_move)
  F_sync_log : Fun K "sync_log" "sync_log" s_sync_log a_sync_log fd_sync_log
  b_sync_log : Binds K fd_sync_log ["log"] []
  m_sync_log : mg "sync_log" = some (.ref a_sync_log)
  F_enter_next_segment : Fun K "enter_next_segment" "enter_next_segment" s_enter_next_segment a_enter_next_segment fd_enter_next_segment
  b_enter_next_segment : Binds K fd_enter_next_segment ["log"] []
  m_enter_next_segment : mg "enter_next_segment" = some (.ref a_enter_next_segment)
  F_listed_in : Fun K "listed_in" "listed_in" s_listed_in a_listed_in fd_listed_in
  b_listed_in : Binds K fd_listed_in ["summary"] []
  m_listed_in : mg "listed_in" = some (.ref a_listed_in)
  F_take_batch : Fun K "take_batch" "take_batch" s_take_batch a_take_batch fd_take_batch
  b_take_batch : Binds K fd_take_batch ["log", "summary"] []
  m_take_batch : mg "take_batch" = some (.ref a_take_batch)
  F_write_batch : Fun K "_write_batch" "_write_batch" s_write_batch a_write_batch fd_write_batch
  b_write_batch : Binds K fd_write_batch ["log", "summary", "payloads"] []
  m_write_batch : mg "_write_batch" = some (.ref a_write_batch)
  F_live_counts : Fun K "live_counts" "live_counts" s_live_counts a_live_counts fd_live_counts
  b_live_counts : Binds K fd_live_counts ["log"] []
  m_live_counts : mg "live_counts" = some (.ref a_live_counts)
  F_ages : Fun K "ages" "ages" s_ages a_ages fd_ages
  b_ages : Binds K fd_ages ["log"] []
  m_ages : mg "ages" = some (.ref a_ages)
  F_segment_rows : Fun K "segment_rows" "segment_rows" s_segment_rows a_segment_rows fd_segment_rows
  b_segment_rows : Binds K fd_segment_rows ["log"] []
  m_segment_rows : mg "segment_rows" = some (.ref a_segment_rows)
  F_candidates : Fun K "candidates" "candidates" s_candidates a_candidates fd_candidates
  b_candidates : Binds K fd_candidates ["log"] []
  m_candidates : mg "candidates" = some (.ref a_candidates)
  F_condition : Fun K "_condition" "_condition" s_condition a_condition fd_condition
  b_condition : Binds K fd_condition ["log", "segment"] []
  m_condition : mg "_condition" = some (.ref a_condition)
  F_Device___init : FunD K "__init__" "Device.__init__" (defArgs s_Device___init) (defBody s_Device___init) (defScope s_Device___init) [V.non] [] a_Device___init fd_Device___init
  ds_Device___init_2 : List Value
  v_Device___init_2 : Vals [V.non] ds_Device___init_2
  b_Device___init_2 : Binds K fd_Device___init ["self", "layout", "blocks"] ds_Device___init_2
  b_Device___init : Binds K fd_Device___init ["self", "layout", "blocks"] []
  F_Device_read : Fun K "read" "Device.read" s_Device_read a_Device_read fd_Device_read
  b_Device_read : Binds K fd_Device_read ["self", "address"] []
  me_Device_read : Meth K A_Device "read" a_Device_read
  F_Device_write : Fun K "write" "Device.write" s_Device_write a_Device_write fd_Device_write
  b_Device_write : Binds K fd_Device_write ["self", "address", "block"] []
  me_Device_write : Meth K A_Device "write" a_Device_write
  F_Device_barrier : Fun K "barrier" "Device.barrier" s_Device_barrier a_Device_barrier fd_Device_barrier
  b_Device_barrier : Binds K fd_Device_barrier ["self"] []
  me_Device_barrier : Meth K A_Device "barrier" a_Device_barrier
  F_Device_pending : Fun K "pending" "Device.pending" s_Device_pending a_Device_pending fd_Device_pending
  b_Device_pending : Binds K fd_Device_pending ["self"] []
  me_Device_pending : Meth K A_Device "pending" a_Device_pending
  F_Device_written_blocks : Fun K "written_blocks" "Device.written_blocks" s_Device_written_blocks a_Device_written_blocks fd_Device_written_blocks
  b_Device_written_blocks : Binds K fd_Device_written_blocks ["self"] []
  me_Device_written_blocks : Meth K A_Device "written_blocks" a_Device_written_blocks
  F_Device__takes_place : Fun K "_takes_place" "Device._takes_place" s_Device__takes_place a_Device__takes_place fd_Device__takes_place
  b_Device__takes_place : Binds K fd_Device__takes_place ["self"] []
  me_Device__takes_place : Meth K A_Device "_takes_place" a_Device__takes_place
  F_put_block : Fun K "_put_block" "_put_block" s_put_block a_put_block fd_put_block
  b_put_block : Binds K fd_put_block ["blocks", "address", "block"] []
  m_put_block : mg "_put_block" = some (.ref a_put_block)
  F_filled : Fun K "filled" "filled" s_filled a_filled fd_filled
  b_filled : Binds K fd_filled ["numbers", "count"] []
  m_filled : mg "filled" = some (.ref a_filled)
  F_pieces : Fun K "pieces" "pieces" s_pieces a_pieces fd_pieces
  b_pieces : Binds K fd_pieces ["numbers", "size"] []
  m_pieces : mg "pieces" = some (.ref a_pieces)
  F_checkpoint_numbers : Fun K "checkpoint_numbers" "checkpoint_numbers" s_checkpoint_numbers a_checkpoint_numbers fd_checkpoint_numbers
  b_checkpoint_numbers : Binds K fd_checkpoint_numbers ["log"] []
  m_checkpoint_numbers : mg "checkpoint_numbers" = some (.ref a_checkpoint_numbers)
  F_write_checkpoint : Fun K "write_checkpoint" "write_checkpoint" s_write_checkpoint a_write_checkpoint fd_write_checkpoint
  b_write_checkpoint : Binds K fd_write_checkpoint ["log"] []
  m_write_checkpoint : mg "write_checkpoint" = some (.ref a_write_checkpoint)
  F_slot_numbers : Fun K "_slot_numbers" "_slot_numbers" s_slot_numbers a_slot_numbers fd_slot_numbers
  b_slot_numbers : Binds K fd_slot_numbers ["layout", "slot"] []
  m_slot_numbers : mg "_slot_numbers" = some (.ref a_slot_numbers)
  F_segments_to_free : Fun K "_segments_to_free" "_segments_to_free" s_segments_to_free a_segments_to_free fd_segments_to_free
  b_segments_to_free : Binds K fd_segments_to_free ["log"] []
  m_segments_to_free : mg "_segments_to_free" = some (.ref a_segments_to_free)
  F_new_log : Fun K "new_log" "new_log" s_new_log a_new_log fd_new_log
  b_new_log : Binds K fd_new_log ["device"] []
  m_new_log : mg "new_log" = some (.ref a_new_log)
  F_victims : Fun K "victims" "victims" s_victims a_victims fd_victims
  b_victims : Binds K fd_victims ["log", "order"] []
  m_victims : mg "victims" = some (.ref a_victims)
  F_cargo : Fun K "cargo" "cargo" s_cargo a_cargo fd_cargo
  b_cargo : Binds K fd_cargo ["log", "order"] []
  m_cargo : mg "cargo" = some (.ref a_cargo)
  F_fill : Fun K "fill" "fill" s_fill a_fill fd_fill
  b_fill : Binds K fd_fill ["log", "order"] []
  m_fill : mg "fill" = some (.ref a_fill)
  F_law_row : Fun K "_law_row" "_law_row" s_law_row a_law_row fd_law_row
  b_law_row : Binds K fd_law_row ["script", "k"] []
  m_law_row : mg "_law_row" = some (.ref a_law_row)
  F_law_digits : Fun K "_law_digits" "_law_digits" s_law_digits a_law_digits fd_law_digits
  b_law_digits : Binds K fd_law_digits ["row", "sizes"] []
  m_law_digits : mg "_law_digits" = some (.ref a_law_digits)
  F_law_layout : Fun K "_law_layout" "_law_layout" s_law_layout a_law_layout fd_law_layout
  b_law_layout : Binds K fd_law_layout ["row"] []
  m_law_layout : mg "_law_layout" = some (.ref a_law_layout)
  F_law_after : Fun K "_law_after" "_law_after" s_law_after a_law_after fd_law_after
  b_law_after : Binds K fd_law_after ["state", "ids", "payloads", "used", "action"] []
  m_law_after : mg "_law_after" = some (.ref a_law_after)
  F_law_payloads : Fun K "_law_payloads" "_law_payloads" s_law_payloads a_law_payloads fd_law_payloads
  b_law_payloads : Binds K fd_law_payloads ["layout", "row", "count"] []
  m_law_payloads : mg "_law_payloads" = some (.ref a_law_payloads)
  F_law_ids : Fun K "_law_ids" "_law_ids" s_law_ids a_law_ids fd_law_ids
  b_law_ids : Binds K fd_law_ids ["layout", "row"] []
  m_law_ids : mg "_law_ids" = some (.ref a_law_ids)
  F_law_used : Fun K "_law_used" "_law_used" s_law_used a_law_used fd_law_used
  b_law_used : Binds K fd_law_used ["layout", "known", "ids", "drop"] []
  m_law_used : mg "_law_used" = some (.ref a_law_used)
  F_law_live : Fun K "_law_live" "_law_live" s_law_live a_law_live fd_law_live
  b_law_live : Binds K fd_law_live ["log"] []
  m_law_live : mg "_law_live" = some (.ref a_law_live)
  F_law_deed : Fun K "_law_deed" "_law_deed" s_law_deed a_law_deed fd_law_deed
  b_law_deed : Binds K fd_law_deed ["layout", "log", "state", "script", "k"] []
  m_law_deed : mg "_law_deed" = some (.ref a_law_deed)
  F_law_rows : Fun K "_law_rows" "_law_rows" s_law_rows a_law_rows fd_law_rows
  b_law_rows : Binds K fd_law_rows ["layout", "log"] []
  m_law_rows : mg "_law_rows" = some (.ref a_law_rows)
  F_law_candidates : Fun K "_law_candidates" "_law_candidates" s_law_candidates a_law_candidates fd_law_candidates
  b_law_candidates : Binds K fd_law_candidates ["layout", "rows"] []
  m_law_candidates : mg "_law_candidates" = some (.ref a_law_candidates)
  F_law : Fun K "law" "law" s_law a_law fd_law
  b_law : Binds K fd_law ["script"] []
  m_law : mg "law" = some (.ref a_law)
  m_Layout : mg "Layout" = some (.ref A_Layout)
  cl_Layout : Cls K A_Layout
  M_Layout : Mk K A_Layout a_Layout___init
  na_Layout_segments : NoAttr K A_Layout "segments"
  na_Layout_segment_blocks : NoAttr K A_Layout "segment_blocks"
  na_Layout_block_size : NoAttr K A_Layout "block_size"
  na_Layout_payload : NoAttr K A_Layout "payload"
  na_Layout_limit : NoAttr K A_Layout "limit"
  na_Layout_last_id : NoAttr K A_Layout "last_id"
  na_Layout_fan : NoAttr K A_Layout "fan"
  na_Layout_region_blocks : NoAttr K A_Layout "region_blocks"
  na_Layout_device_blocks : NoAttr K A_Layout "device_blocks"
  m_Counts : mg "Counts" = some (.ref A_Counts)
  cl_Counts : Cls K A_Counts
  M_Counts : Mk K A_Counts a_Counts___init
  na_Counts_commits : NoAttr K A_Counts "commits"
  na_Counts_commit_blocks : NoAttr K A_Counts "commit_blocks"
  na_Counts_moves : NoAttr K A_Counts "moves"
  na_Counts_move_blocks : NoAttr K A_Counts "move_blocks"
  na_Counts_checkpoints : NoAttr K A_Counts "checkpoints"
  na_Counts_checkpoint_blocks : NoAttr K A_Counts "checkpoint_blocks"
  na_Counts_barriers : NoAttr K A_Counts "barriers"
  m_Log : mg "Log" = some (.ref A_Log)
  cl_Log : Cls K A_Log
  M_Log : Mk K A_Log a_Log___init
  na_Log_device : NoAttr K A_Log "device"
  na_Log_layout : NoAttr K A_Log "layout"
  na_Log_present : NoAttr K A_Log "present"
  na_Log_slots : NoAttr K A_Log "slots"
  na_Log_head : NoAttr K A_Log "head"
  na_Log_place : NoAttr K A_Log "place"
  na_Log_queue : NoAttr K A_Log "queue"
  na_Log_last_sequence : NoAttr K A_Log "last_sequence"
  na_Log_region : NoAttr K A_Log "region"
  na_Log_counts : NoAttr K A_Log "counts"
  m_Device : mg "Device" = some (.ref A_Device)
  cl_Device : Cls K A_Device
  M_Device : Mk K A_Device a_Device___init
  na_Device_layout : NoAttr K A_Device "layout"
  na_Device__sure : NoAttr K A_Device "_sure"
  na_Device__shown : NoAttr K A_Device "_shown"
  na_Device__unsure : NoAttr K A_Device "_unsure"
  na_Device__commands_left : NoAttr K A_Device "_commands_left"
  na_Device__power_is_off : NoAttr K A_Device "_power_is_off"
  c_BLOCK_SIZES : mg "BLOCK_SIZES" = some (.ref a_BLOCK_SIZES)
  r_BLOCK_SIZES : RelV (.ref a_BLOCK_SIZES) (.ref a_BLOCK_SIZES)
  v_BLOCK_SIZES : ∀ H : Hp, SqT K H a_BLOCK_SIZES [.int 64, .int 128, .int 256]
  c_COMMIT : mg "COMMIT" = some (.int 1 t_COMMIT)
  r_COMMIT : RelV (.int 1) (.int 1 t_COMMIT)
  c_DATA : mg "DATA" = some (.int 3 t_DATA)
  r_DATA : RelV (.int 3) (.int 3 t_DATA)
  c_MOVE : mg "MOVE" = some (.int 2 t_MOVE)
  r_MOVE : RelV (.int 2) (.int 2 t_MOVE)
  c_NODE : mg "NODE" = some (.int 4 t_NODE)
  r_NODE : RelV (.int 4) (.int 4 t_NODE)
  c_PART : mg "PART" = some (.int 5 t_PART)
  r_PART : RelV (.int 5) (.int 5 t_PART)
  c_SUMMARY_HEAD : mg "SUMMARY_HEAD" = some (.int 16 t_SUMMARY_HEAD)
  r_SUMMARY_HEAD : RelV (.int 16) (.int 16 t_SUMMARY_HEAD)
  n_enumerate : mg "enumerate" = none
  n_int : mg "int" = none
  n_isinstance : mg "isinstance" = none
  n_len : mg "len" = none
  n_list : mg "list" = none
  n_max : mg "max" = none
  n_range : mg "range" = none
  n_set : mg "set" = none
  n_sorted : mg "sorted" = none
  n_tuple : mg "tuple" = none
  n_zip : mg "zip" = none
end Sg
namespace Sg
open PySem L2
local macro_rules | `(tactic| walk_at "size") => `(tactic| first | ((simp only [List.length_append, List.length_cons, List.length_nil, List.length_map, Sg.sz]) <;> omega) | (rw [Sg.sz]; simp <;> omega))
local macro_rules | `(tactic| walk_at "side") => `(tactic| first | with_reducible rfl | with_reducible assumption | (show (_ : Int) < _; omega) | omega | (simp only [List.length_map]; omega) | assumption | rfl | decide | exact Or.inr ⟨by decide, by decide⟩ | exact Or.inl ⟨by decide, by decide⟩ | exact Or.inr ⟨by omega, by omega⟩ | exact Or.inl ⟨by omega, by omega⟩ | exact ⟨by omega, by omega⟩ | exact ⟨by decide, by decide, by decide⟩ | (simp; done))
local macro_rules | `(tactic| walk_at "hp") => `(tactic| first | assumption | (refine' L2.SqT.of ?h1; (case h1 => walk_at "hp")) | (refine' L2.SqL.of ?h1; (case h1 => walk_at "hp")) | (refine' Sg.Same.tup ?h1 ?h2; (case h1 => assumption); (case h2 => walk_at "hp")) | (refine' L2.Same.seq ?h1 ?h2; (case h1 => assumption); (case h2 => walk_at "hp")) | (refine' (show L2.Same _ _ from ?h1) _ _ ?h2; (case h1 => assumption); (case h2 => walk_at "hp")) | (refine' Sg.at_keep ?he ?h1 ?h2 ?h3; (case he => assumption); (case h1 => walk_at "hp"); (case h2 => walk_at "hp"); (case h3 => (intro z; cases z))))
local macro_rules | `(tactic| walk_at "al") => `(tactic| (intro p hn; generalize hH : upd _ _ _ = H'; have hs := Sg.Same.of_new hH hn; have ho := Sg.at_new hH; clear hH))
local macro_rules | `(tactic| walk_at "sm1") => `(tactic| first | (refine' L2.Same.trans ?ha ?hb; (case hb => assumption)) | (refine' Sg.Same.old ?ha ?hb ?hc; (case hc => assumption); (case hb => walk_at "nn")))
local macro_rules | `(tactic| walk_at "sm") => `(tactic| first | exact L2.Same.refl _ | assumption | (walk_at "sm1"; walk_at "sm"))
local macro_rules | `(tactic| walk_at "nn") => `(tactic| first | assumption | ((refine' L2.Same.free ?ha ?hb; (case hb => assumption)); walk_at "sm"))
local macro_rules | `(tactic| walk_at "dp") => `(tactic| first | assumption | exact L2.Dp.int _ | exact L2.Dp.non | exact L2.Dp.bl _ | exact L2.Dp.str _ | (refine' L2.Dp.tup ?ha ?hb; (case ha => walk_at "hp"); (case hb => walk_at "dpa")) | (refine' L2.Dp.lst ?ha ?hb; (case ha => walk_at "hp"); (case hb => walk_at "dpa")))
local macro_rules | `(tactic| walk_at "dpa") => `(tactic| first | assumption | exact L2.DpAll.nil | exact Sg.DpAll.ints _ | (refine' L2.DpAll.cons ?ha ?hb; (case ha => walk_at "dp"); (case hb => walk_at "dpa")))
local macro_rules | `(tactic| walk_at "fl") => `(tactic| first | assumption | exact Sg.Fl.int _ _ | exact Sg.Fl.non _ | exact Sg.Fl.bool _ _ | (refine' Sg.Fl.tup ?ha; (case ha => walk_at "fla")) | (refine' Sg.Fl.lst ?ha; (case ha => walk_at "fla")))
local macro_rules | `(tactic| walk_at "fla") => `(tactic| first | assumption | exact Sg.Fl.nil | exact Sg.Fl.mapi | (refine' Sg.Fl.cons ?ha ?hb; (case ha => walk_at "fl"); (case hb => walk_at "fla")))
local macro_rules | `(tactic| walk_at "tyx") => `(tactic| first | exact L2.TyX.base (L2.TyOf.int _) | exact L2.TyX.base (L2.TyOf.bl _) | exact L2.TyX.base L2.TyOf.non | exact L2.TyX.base (L2.TyOf.str _) | (refine' L2.TyX.base (L2.TyOf.tup ?ha); (case ha => walk_at "hp")) | (refine' L2.TyX.base (L2.TyOf.lst ?ha); (case ha => walk_at "hp")) | (refine' L2.TyX.base (L2.TyOf.frz ?ha); (case ha => walk_at "hp")))
local macro_rules | `(tactic| walk_at "up") => `(tactic| (generalize hH : upd _ _ _ = H'; have ho := Sg.at_new hH))
local macro_rules | `(tactic| walk_at "lk") => `(tactic| first | with_reducible assumption | with_reducible exact Sg.lk_eq | (refine' Sg.lk_ne ?ha ?hb; (case ha => decide +kernel); (case hb => walk_at "lk")) | (refine' Sg.lk_no ?ha ?hb; (case ha => decide +kernel); (case hb => walk_at "lk")) | rfl)
local macro_rules | `(tactic| walk_at "few") => `(tactic| first | assumption | omega | decide | (refine' Nat.lt_of_le_of_lt (Sg.putF_len ?ha) ?hb; (case ha => walk_at "fewi"); (case hb => decide)))
local macro_rules | `(tactic| walk_at "fewi") => `(tactic| first | assumption | (refine' Sg.putF_len ?ha; (case ha => walk_at "fewi")) | exact Nat.le_refl _)
local macro_rules | `(tactic| walk_at "rd1") => `(tactic| with_reducible (first | refine' Sg.r_seq ?_ | refine' Sg.r_asg ?_ | refine' Sg.r_gname ?_ | (refine' Sg.r_var (by with_unfolding_all rfl) ?_) | refine' Sg.r_c ?_ | refine' Sg.r_op ?_ | refine' Sg.r_un ?_ | refine' Sg.r_cb ?_ | refine' Sg.r_cons ?_ | refine' Sg.r_nil ?_ | (refine' Sg.r_mod ?hc ?_; (case hc => (with_unfolding_all walk_at "side")); (intro z hz z0 z1)) | (refine' Sg.r_rI ?hc ?_; (case hc => (with_unfolding_all walk_at "side"))) | refine' Sg.r_rI0 ?_ | refine' Sg.r_rU ?_ | refine' Sg.r_int ?_ | refine' Sg.r_eqi ?_ | refine' Sg.r_nei ?_ | (refine' Sg.r_ixl ?h ?e ?_; (case h => (with_unfolding_all walk_at "hp")); (case e => (with_unfolding_all rfl))) | (refine' Sg.r_ixt ?h ?e ?_; (case h => (with_unfolding_all walk_at "hp")); (case e => (with_unfolding_all rfl))) | (refine' Sg.r_lenl ?h ?_; (case h => (with_unfolding_all walk_at "hp"))) | (refine' Sg.r_lent ?h ?_; (case h => (with_unfolding_all walk_at "hp"))) | refine' Sg.r_test ?_ | refine' Sg.r_exb ?_ | refine' Sg.r_tB ?_ | refine' Sg.r_exbP ?_ | refine' Sg.r_ifs ?_ | refine' Sg.r_and ?_ | refine' Sg.r_or ?_ | refine' Sg.r_not ?_ | refine' Sg.r_andV ?_ | refine' Sg.r_orV ?_ | refine' Sg.r_notV ?_ | refine' Sg.r_tif ?_ | refine' Sg.r_isN ?_ | refine' Sg.r_notN ?_ | refine' Sg.r_ret ?_ | refine' Sg.r_drop ?_ | refine' Sg.r_next ?_ | refine' Sg.r_call ?_ | refine' Sg.r_make ?_ | refine' Sg.r_meth ?_ | refine' Sg.r_fld ?_ | refine' Sg.r_sfld ?_ | refine' Sg.r_chain ?_ | (refine' Sg.r_fldL ?h ?hc ?hn ?hl ?_; (case h => (with_unfolding_all walk_at "hp")); (case hc => assumption); (case hn => assumption); (case hl => (with_unfolding_all walk_at "lk"))) | (refine' Sg.r_sfldL ?h ?hc ?hn ?hl ?_; (case h => (with_unfolding_all walk_at "hp")); (case hc => assumption); (case hn => assumption); (case hl => (with_unfolding_all walk_at "few")); (with_unfolding_all walk_at "up")) | (refine' Sg.r_gunl ?h ?hl ?_; (case h => (with_unfolding_all walk_at "hp")); (case hl => (with_unfolding_all walk_at "side"))) | (refine' Sg.r_gtup ?h ?hl ?_; (case h => (with_unfolding_all walk_at "hp")); (case hl => (with_unfolding_all walk_at "side"))) | (refine' Sg.r_methL ?h ?hl ?_; (case h => (with_unfolding_all walk_at "hp")); (case hl => (with_unfolding_all walk_at "lk"))) | refine' Sg.r_tup ?_ | refine' Sg.r_lst ?_ | (refine' Sg.r_ktup ?hl ?_; (case hl => (with_unfolding_all first | exact Nat.le_of_ble_eq_true rfl | decide)); (with_unfolding_all walk_at "al")) | (refine' Sg.r_klst ?hl ?_; (case hl => (with_unfolding_all first | exact Nat.le_of_ble_eq_true rfl | decide)); (with_unfolding_all walk_at "al")) | (refine' Sg.r_listl ?h ?_; (case h => (with_unfolding_all walk_at "hp")); (with_unfolding_all walk_at "al")) | (refine' Sg.r_listt ?h ?_; (case h => (with_unfolding_all walk_at "hp")); (with_unfolding_all walk_at "al")) | (refine' Sg.r_tupl ?h ?_; (case h => (with_unfolding_all walk_at "hp")); (with_unfolding_all walk_at "al")) | (refine' Sg.r_tupt ?h ?_; (case h => (with_unfolding_all walk_at "hp"))) | (refine' Sg.r_in (.inr ?h) ?fx ?fs ?_; (case h => (with_unfolding_all walk_at "hp")); (case fx => (with_unfolding_all rfl)); (case fs => (with_unfolding_all rfl))) | (refine' Sg.r_in (.inl ?h) ?fx ?fs ?_; (case h => (with_unfolding_all walk_at "hp")); (case fx => (with_unfolding_all rfl)); (case fs => (with_unfolding_all rfl))) | (refine' Sg.r_sorted ?h ?h64 ?_; (case h => (with_unfolding_all walk_at "hp")); (case h64 => (with_unfolding_all walk_at "side")); (intro ns' p perm rising; revert p; (with_unfolding_all walk_at "al"))) | (refine' Sg.r_app ?h ?hl ?_; (case h => (with_unfolding_all walk_at "hp")); (case hl => (with_unfolding_all walk_at "size")); (with_unfolding_all walk_at "up")) | refine' Sg.r_lc ?_ | refine' Sg.r_for ?_ | refine' Sg.r_irng1 ?_ | refine' Sg.r_irng2 ?_ | refine' Sg.r_ilist ?_ | refine' Sg.r_itup ?_ | (refine' Sg.r_kR1 ?h1 ?h2 ?_; (case h1 => (with_unfolding_all walk_at "side")); (case h2 => (with_unfolding_all walk_at "side"))) | (refine' Sg.r_kR2 ?h1 ?_; (case h1 => (with_unfolding_all refine ⟨?_, ?_, ?_, ?_⟩ <;> walk_at "side"))) | (refine' Sg.r_kIl ?h ?_; (case h => (with_unfolding_all walk_at "hp"))) | (refine' Sg.r_kIt ?h ?_; (case h => (with_unfolding_all walk_at "hp"))) | refine' Sg.r_bm ?_ | refine' Sg.r_bm0 ?_ | (refine' Sg.r_tyl ?h ?_; (case h => (with_unfolding_all walk_at "hp"))) | refine' Sg.r_nonR ?_ | refine' Sg.r_nonN ?_ | refine' Sg.r_isR ?_ | refine' Sg.r_isNN ?_ | refine' Sg.r_nonI ?_ | refine' Sg.r_isI ?_ | refine' L2.iteT ?_ | refine' L2.iteF ?_ | refine' Sg.r_gcons ?_ | refine' Sg.r_gnil ?_ | refine' Sg.r_gsub ?_ | refine' Sg.r_isb ?_ | refine' Sg.r_notb ?_ | (refine' Sg.r_aug (by with_unfolding_all rfl) ?_) | refine' Sg.r_ipI ?_ | (refine' Sg.r_isi (b := true) (L2.ClsV.ty _) ?ht ?hk ?_; (case ht => (with_unfolding_all walk_at "tyx")); (case hk => (with_unfolding_all exact L2.kit_ty (by decide +kernel)))) | (refine' Sg.r_isi (b := false) (L2.ClsV.ty _) ?ht ?hk ?_; (case ht => (with_unfolding_all walk_at "tyx")); (case hk => (with_unfolding_all exact L2.kit_ty (by decide +kernel)))) | refine' Sg.r_gmap ?_ | refine' Sg.r_gmapn ?_ | (refine' Sg.r_iteb ?hb ?_; (case hb => (with_unfolding_all rfl))) | (refine' Sg.r_iteB ?hb ?_; (case hb => (with_unfolding_all rfl)))))
local macro_rules | `(tactic| walk_at "rd") => `(tactic| repeat walk_at "rd1")
local macro_rules | `(tactic| walk_at "rdo") => `(tactic| repeat (first | walk_at "rd1" | (with_reducible refine' Sg.r_iteD ?hc ?_; (case hc => first | assumption | omega)) | (with_reducible refine' Sg.r_iteDn ?hc ?_; (case hc => first | assumption | omega)) | (with_reducible refine' Sg.r_iteND ?hc ?_; (case hc => first | assumption | omega)) | (with_reducible refine' Sg.r_iteNDn ?hc ?_; (case hc => first | assumption | omega))))
local macro_rules | `(tactic| walk_at "rd1") => `(tactic| with_reducible (first | refine' Sg.r_istr ?_ | refine' Sg.r_kIs ?_ | refine' Sg.r_eqb ?_ | refine' Sg.r_isS ?_ | refine' Sg.r_nonS ?_ | refine' Sg.r_eqs ?_ | refine' Sg.r_nes ?_ | refine' Sg.r_sl ?_ | refine' Sg.r_noP ?_ | refine' Sg.r_part ?_ | refine' Sg.r_kPart ?_ | (refine' Sg.r_slL ?h ?_; (case h => (with_unfolding_all walk_at "hp")); (with_unfolding_all walk_at "al"))))
local macro_rules | `(tactic| walk_at "szle") => `(tactic| (rw [Sg.sz]; (try simp only [List.length_map, List.length_append, List.length_cons, List.length_nil, List.length_replicate]); omega))
local macro_rules | `(tactic| walk_at "rd1") => `(tactic| with_reducible (first | (refine' Sg.r_cat ?h ?h' ?hz ?_; (case h => (with_unfolding_all walk_at "hp")); (case h' => (with_unfolding_all walk_at "hp")); (case hz => (with_unfolding_all walk_at "szle")); (with_unfolding_all walk_at "al")) | (refine' Sg.r_rep1 ?h ?h1 ?h2 ?_; (case h => (with_unfolding_all walk_at "hp")); (case h1 => omega); (case h2 => omega); (with_unfolding_all walk_at "al"))))
local macro_rules | `(tactic| walk_at "rd1") => `(tactic| with_reducible (first | (refine' Sg.r_lenS ?hl ?_; (case hl => omega)) | (refine' Sg.r_min2 ?_; (intro m hm1 hm2 hm3)) | (refine' Sg.r_max2 ?_; (intro m hm1 hm2 hm3)) | (refine' Sg.r_addT ?hl ?_; (case hl => omega))))
local macro_rules | `(tactic| walk_at "ca1") => `(tactic| fail)
local macro_rules | `(tactic| walk_at "pr") => `(tactic| first | assumption | omega | walk_at "hp" | exact L2.upd_same | rfl | trivial | decide)
local macro_rules | `(tactic| walk_at "it1") => `(tactic| with_reducible (first | (refine' Sg.r_iteD ?hc ?_; (case hc => first | assumption | omega)) | (refine' Sg.r_iteDn ?hc ?_; (case hc => first | assumption | omega)) | (refine' Sg.r_iteND ?hc ?_; (case hc => first | assumption | omega)) | (refine' Sg.r_iteNDn ?hc ?_; (case hc => first | assumption | omega))))
local macro_rules | `(tactic| walk_at "go1") => `(tactic| first | walk_at "rd1" | walk_at "rx1" | walk_at "ca1" | walk_at "it1")
local macro_rules | `(tactic| walk_at "go") => `(tactic| repeat walk_at "go1")
local macro_rules | `(tactic| walk_at "gs") => `(tactic| repeat' (first | walk_at "go1" | with_reducible refine' Sg.r_ite (fun _ => ?_) (fun _ => ?_) | with_reducible refine' Sg.r_iteN (fun _ => ?_) (fun _ => ?_)))
-- imports: HandS.NoneIn HandS.Defaults HandS.TupMul HandS.TupAny HandS.Zip HandS.SetFor HandS.SetKeys HandS.Walk HandS.Codes HandS.Property HandS.MakeKw HandS.MakeKwOnly HandS.Style HandS.More HandS.Dict HandS.Iter HandS.SortInts HandS.Strs HandS.DictTup HandS.Deep HandS.SetBool KE.GoesEnum KE.GoesEnumKw HandS.GenYield HandS.GenCall HandS.GenList HandS.SortRule
-- auto
section
variable {P : Program} {w : World} {K : PySem.W.Frag} {mg : Str → Option Value} {base : Heap}
/-! ### numbers drawn from the script -/
def sp_row (K : PySem.W.Frag) : Sp := fun vs H Q _ => ∃ (a : Addr) (ns : List Int) (k : Int), vs = [.ref a, .int k] ∧ SqL K H a (ns.map V.int) ∧ ns.length ≤ 63 ∧ 0 ≤ k ∧ k ≤ 1000 ∧ ∀ z : Int, 0 ≤ z → Q (.int z) H
theorem ok_law_row (T : Txt K mg) : FnOk P w K mg base CX0 1 T.a_law_row T.fd_law_row ["script", "k"] (sp_row K) := by
  refine T.F_law_row.ok sc_law_row (fun vs H Q E h => ?_) (fun cdv A outer s H vs Q E hr h => ?_)
  · obtain ⟨a, ns, k, rfl, _⟩ := h
    rfl
  · refine ⟨_, (pss_cons (ps_set (i := 2) sc_law_row.nd rfl (Or.inl rfl) pe_int)
       (C8.pss_cut (ps_if (pt_cmpR op_gt (pe_callB (c_len) (by rfl) T.n_len (by decide +kernel) (pa_cons (pv 0) pa_nil)) pe_int (nomark _))
       (pss_one (ps_set (i := 2) sc_law_row.nd rfl (Or.inl rfl) (pe_ix ix_list (pv 0) (pe_op op_mod (pe_callTy c_int (by rfl) T.n_int (by decide +kernel) (pa_cons (pv 1) pa_nil)) (pe_callB (c_len) (by rfl) T.n_len (by decide +kernel) (pa_cons (pv 0) pa_nil))) (fun _ _ => rfl))))
       pss_nil)
       (C8.pss_cut (ps_if (pt_cmpR op_lt (pv 2) pe_int (nomark _))
       (pss_one (ps_set (i := 2) sc_law_row.nd rfl (Or.inl rfl) (pe_op op_sub pe_int (pe_op op_mul pe_int (pv 2)))))
       pss_nil)
       (C8.pss_cut (ps_if (PW.pt (pw_and (pt_cmpR op_ge (pv 2) (pe_op op_pow pe_int pe_int) (nomark _)) (pw_and1 (pt_cmpR op_lt (pv 1) (pe_callB (c_len) (by rfl) T.n_len (by decide +kernel) (pa_cons (pv 0) pa_nil)) (nomark _)))))
       (pss_one (ps_ret (pv 2)))
       pss_nil)
       (pss_cons (ps_set (i := 3) sc_law_row.nd rfl (Or.inl rfl) (pe_op op_mod (pe_callTy c_int (by rfl) T.n_int (by decide +kernel) (pa_cons (pe_op op_add (pe_op op_add (pe_op op_mul (pv 2) pe_int) (pe_op op_mul (pe_op op_add (pv 1) pe_int) pe_int)) (pe_callB (c_len) (by rfl) T.n_len (by decide +kernel) (pa_cons (pv 0) pa_nil))) pa_nil)) pe_int))
       (pss_cons (ps_set (i := 4) sc_law_row.nd rfl (Or.inl rfl) (pe_op op_mod (pe_callTy c_int (by rfl) T.n_int (by decide +kernel) (pa_cons (pe_op op_add (pe_op op_add (pe_op op_mul (pv 3) (pv 3)) (pe_op op_mul (pv 2) pe_int)) (pv 1)) pa_nil)) pe_int))
       (pss_one (ps_ret (pe_op op_add (pe_op op_mul (pv 4) pe_int) (pe_op op_mod (pe_callTy c_int (by rfl) T.n_int (by decide +kernel) (pa_cons (pe_op op_mul (pv 3) pe_int) pa_nil)) pe_int)))))))))), ?_⟩
    try dsimp only [cxOf, Cx.nox, Cx.wish]
    obtain ⟨a, ns, k, rfl, hS, h63, k0, k1, q⟩ := h
    walk_at "rd"
    refine r_cut (fun σ' H' => ∃ z : Int, σ' = [some (.ref a), some (.int k), some (.int z), none, none] ∧ H = H') ?_ ?_
    · walk_at "rd"
      refine r_ite (fun hlen => ?_) (fun _ => ?_)
      · rw [List.length_map] at hlen
        walk_at "rd"
        rename_i z hz z0 z1
        rw [List.length_map] at z1
        refine r_ixl hS (v := .int (ns.getD z.toNat 0)) ?_ ?_
        · obtain ⟨n, rfl⟩ := Int.eq_ofNat_of_zero_le z0
          refine atI_nat ?_
          have hn : n < ns.length := by omega
          rw [List.getElem?_map, List.getElem?_eq_getElem hn, List.getD_eq_getElem?_getD, Int.toNat_natCast, List.getElem?_eq_getElem hn]
          rfl
        · walk_at "rd"
          exact ⟨_, rfl, rfl⟩
      · exact ⟨0, rfl, rfl⟩
    · rintro _ _ ⟨z, rfl, rfl⟩
      walk_at "rd"
      refine r_cut (fun σ' H' => ∃ z : Int, 0 ≤ z ∧ σ' = [some (.ref a), some (.int k), some (.int z), none, none] ∧ H = H') ?_ ?_
      · walk_at "rd"
        refine r_ite (fun _ => ?_) (fun _ => ?_)
        · walk_at "rd"
          exact ⟨_, by omega, rfl, rfl⟩
        · exact ⟨_, by omega, rfl, rfl⟩
      · rintro _ _ ⟨y, y0, rfl, rfl⟩
        walk_at "rd"
        refine r_cutS ?_ ?_
        · walk_at "rd"
          refine r_ite (fun _ => ?_) (fun _ => ?_)
          · walk_at "rd"
            refine r_ite (fun _ => ?_) (fun _ => ?_)
            · walk_at "rd"
              exact q _ y0
            · exact ⟨rfl, rfl⟩
          · walk_at "rd"
            exact ⟨rfl, rfl⟩
        · walk_at "rd"
          exact q _ (by omega)
/-- digits by their sizes -/
abbrev Digs (ds ss : List Int) : Prop := Paired (fun (d s : Int) => 0 ≤ d ∧ d < s) ds ss
def sp_digits (K : PySem.W.Frag) : Sp := fun vs H Q _ => ∃ (r : Int) (l : Addr) (ss : List Int), vs = [.int r, .ref l] ∧ SqL K H l (ss.map V.int) ∧ ss.length ≤ 1000 ∧ (∀ s ∈ ss, 0 < s ∧ s < 1000000000000000000) ∧
  ∀ H' d (ds : List Int), Same H H' → H d = none → H' d = some (.lst (ds.map V.int)) → Digs ds ss → Q (.ref d) H'
theorem paired_snoc {α β : Type} {F : α → β → Prop} : ∀ {xs : List α} {ys : List β} {x : α} {y : β}, Paired F xs ys → F x y → Paired F (xs ++ [x]) (ys ++ [y])
  | _, _, _, _, .nil, h => .cons h .nil
  | _, _, _, _, .cons r t, h => .cons r (paired_snoc t h)
theorem ok_law_digits (T : Txt K mg) : FnOk P w K mg base CX0 1 T.a_law_digits T.fd_law_digits ["row", "sizes"] (sp_digits K) := by
  refine T.F_law_digits.ok sc_law_digits (fun vs H Q E h => ?_) (fun cdv A outer s H vs Q E hr h => ?_)
  · obtain ⟨r, l, ss, rfl, _⟩ := h
    rfl
  · refine ⟨_, (pss_cons (ps_set (i := 2) sc_law_digits.nd rfl (Or.inl rfl) (pe_lst pa_nil))
       (pss_cons (ps_for PassesOwn.never rfl (pi_list (pv 1)) (pg_name (i := 3) sc_law_digits.nd rfl (Or.inl rfl))
       (pss_cons (ps_expr (pe_bm PySem.F.plainAttrs_list PySem.F.slot_list_append PySem.F.type_list_append mt_append (pv 2) (pa_cons (pe_op op_mod (pe_callTy c_int (by rfl) T.n_int (by decide +kernel) (pa_cons (pv 0) pa_nil)) (pv 3)) pa_nil)))
       (pss_one (ps_set (i := 0) sc_law_digits.nd rfl (Or.inl rfl) (pe_op op_fdivW (pv 0) (pv 3))))))
       (pss_one (ps_ret (pv 2))))), ?_⟩
    try dsimp only [cxOf, Cx.nox, Cx.wish]
    obtain ⟨r, l, ss, rfl, hS, hlen, hss, q⟩ := h
    walk_at "rd"
    rename_i p hn H1 s1 h1
    refine r_forL (xs := ss.map V.int) (fun i σ' H' => ∃ (z : Int) (ds : List Int) (v : Option V), σ' = [some (.int z), some (.ref l), some (.ref p), v] ∧ Same H H' ∧ H' p = some (.lst (ds.map V.int)) ∧ Digs ds (ss.take i)) ?_ ?_ ?_ ?_
    · exact ⟨r, [], none, rfl, s1, h1, .nil⟩
    · rintro i σ' H' _ ⟨z, ds, v, rfl, s2, h2, hd⟩
      exact s2.seq hS
    · rintro i x σ' H' hx ⟨z, ds, v, rfl, s2, h2, hd⟩
      rw [List.getElem?_map] at hx
      obtain ⟨y, hy, rfl⟩ := Option.map_eq_some_iff.mp hx
      obtain ⟨y0, y1⟩ := hss y (List.mem_of_getElem? hy)
      have hdl : ds.length ≤ 1000 := by
        rw [Paired.length hd, List.length_take]
        omega
      walk_at "rd"
      rename_i d hd1 d0 d1 H3 e3 h3
      refine ⟨_, _, rfl, rfl, wide_div (b := 64) y0 (by omega) (by decide) (by decide), ?_⟩
      walk_at "rd"
      refine ⟨_, ds ++ [d], _, rfl, Sg.Same.old s2 hn e3, ?_, ?_⟩
      · rw [h3, List.map_append]
        rfl
      · have e : ss.take (i + 1) = ss.take i ++ [y] := by rw [List.take_add_one, hy]; rfl
        rw [e]
        exact paired_snoc hd ⟨d0, d1⟩
    · rintro σ' H' ⟨z, ds, v, rfl, s2, h2, hd⟩
      rw [List.length_map, List.take_length] at hd
      walk_at "rd"
      exact q _ _ _ s2 hn h2 hd
def sp_parts_of : Sp := fun vs H Q _ => ∃ n s : Int, vs = [.int n, .int s] ∧ 0 < s ∧ s < 1073741824 ∧ Q (.int ((n + s - 1) / s)) H
theorem ok_parts_of (T : Txt K mg) : FnOk P w K mg base CX0 1 T.a_parts_of T.fd_parts_of ["number", "size"] sp_parts_of := by
  refine T.F_parts_of.ok sc_parts_of (fun vs H Q E h => ?_) (fun cdv A outer s H vs Q E hr h => ?_)
  · obtain ⟨n, s, rfl, _⟩ := h
    rfl
  · refine ⟨_, (pss_one (ps_ret (pe_op op_fdiv (pe_op op_sub (pe_op op_add (pv 0) (pv 1)) pe_int) (pv 1)))), ?_⟩
    try dsimp only [cxOf, Cx.nox, Cx.wish]
    obtain ⟨n, s, rfl, h1, h2, q⟩ := h
    walk_at "rd"
    exact q
/-! ### layouts -/
/-- the numbers of a layout -/
structure Lay where
  seg : Int
  blk : Int
  size : Int
  pay : Int
  lim : Int
  last : Int
  fan : Int
  reg : Int
  dev : Int
def layOf (s b z : Int) : Lay := ⟨s, b, z, b - 1, (s - 2) * (b - 1), (s - 2) * (b - 1) + (b - 1), z / 2, (2 * (4 * ((s - 2) * (b - 1) + (b - 1)) + 6 + s) + z - 1) / z, 2 * ((2 * (4 * ((s - 2) * (b - 1) + (b - 1)) + 6 + s) + z - 1) / z) + s * b⟩
/-- three sizes that a layout can have -/
structure Fits (s b z : Int) : Prop where
  s0 : 4 ≤ s
  s1 : s ≤ 16
  b0 : 16 ≤ b
  b1 : b ≤ 32
  zz : z = 64 ∨ z = 128 ∨ z = 256
  fit : 16 + 2 * (b - 1) + ((s - 2) * (b - 1) + (b - 1) + 8 - 1) / 8 ≤ z
/-- the fields of a layout -/
structure LayFs (L : Lay) (fs : List (Str × V)) : Prop where
  seg : fs.lookup ("segments" : Str) = some (V.int L.seg)
  blk : fs.lookup ("segment_blocks" : Str) = some (V.int L.blk)
  size : fs.lookup ("block_size" : Str) = some (V.int L.size)
  pay : fs.lookup ("payload" : Str) = some (V.int L.pay)
  lim : fs.lookup ("limit" : Str) = some (V.int L.lim)
  last : fs.lookup ("last_id" : Str) = some (V.int L.last)
  fan : fs.lookup ("fan" : Str) = some (V.int L.fan)
  reg : fs.lookup ("region_blocks" : Str) = some (V.int L.reg)
  dev : fs.lookup ("device_blocks" : Str) = some (V.int L.dev)
def LayAt (C : Addr) (L : Lay) (H : Hp) (p : Addr) : Prop := ∃ dx fs, H p = some (.ins C dx fs) ∧ LayFs L fs
theorem LayAt.mono {C : Addr} {L : Lay} {H H' : Hp} {p : Addr} (s : Same H H') (h : LayAt C L H p) : LayAt C L H' p := by
  obtain ⟨dx, fs, h1, h2⟩ := h
  exact ⟨dx, fs, s _ _ h1, h2⟩
def sp_layout (C : Addr) : Sp := fun vs H Q _ => ∃ (p dx : Addr) (s b z : Int), vs = [.ref p, .int s, .int b, .int z] ∧ H p = some (.ins C dx []) ∧ Fits s b z ∧
  ∀ H' fs, (∀ q, q ≠ p → H' q = H q) → H' p = some (.ins C dx fs) → LayFs (layOf s b z) fs → Q .non H'
theorem in_sizes {z : Int} (h : z = 64 ∨ z = 128 ∨ z = 256) : (!inV (V.int z) [V.int 64, V.int 128, V.int 256]) = false := by
  rcases h with rfl | rfl | rfl <;> decide
theorem keep1 {H H1 H' : Hp} {p : Addr} {o : HO} (h : ∀ q, q ≠ p → H1 q = H q) (e : upd H1 p o = H') : ∀ q, q ≠ p → H' q = H q := fun q hq => by
  rw [← e, upd_ne hq]
  exact h q hq
theorem ok_Layout___init (T : Txt K mg) : FnOk P w K mg base CX0 2 T.a_Layout___init T.fd_Layout___init ["self", "segments", "segment_blocks", "block_size"] (sp_layout T.A_Layout) := by
  refine T.F_Layout___init.ok sc_Layout___init (fun vs H Q E h => ?_) (fun cdv A outer s H vs Q E hr h => ?_)
  · obtain ⟨p, dx, s, b, z, rfl, _⟩ := h
    rfl
  · refine ⟨_, (pss_cons (ps_if (pt_not (pt_chain op_le op_le pe_int (pv 1) pe_int))
       (pss_one ps_never)
       pss_nil)
       (pss_cons (ps_if (pt_not (pt_chain op_le op_le pe_int (pv 2) pe_int))
       (pss_one ps_never)
       pss_nil)
       (pss_cons (ps_if (pt_cmpR op_notIn_seq (pv 3) (pe_glob rfl T.c_BLOCK_SIZES T.r_BLOCK_SIZES) (by with_unfolding_all rfl))
       (pss_one ps_never)
       pss_nil)
       (pss_cons (ps_fld (pv 0) (pv 1) rfl)
       (pss_cons (ps_fld (pv 0) (pv 2) rfl)
       (pss_cons (ps_fld (pv 0) (pv 3) rfl)
       (pss_cons (ps_fld (pv 0) (pe_op op_sub (pv 2) pe_int) rfl)
       (pss_cons (ps_fld (pv 0) (pe_op op_mul (pe_op op_sub (pv 1) pe_int) (pe_fld (pv 0) rfl)) rfl)
       (pss_cons (ps_fld (pv 0) (pe_op op_add (pe_fld (pv 0) rfl) (pe_fld (pv 0) rfl)) rfl)
       (pss_cons (ps_fld (pv 0) (pe_op op_fdiv (pv 3) pe_int) rfl)
       (pss_cons (ps_fld (pv 0) (pe_call (ok_parts_of T) (hr.mono (by decide)) rfl T.m_parts_of T.F_parts_of.kp T.b_parts_of .nil pass0 (pa_cons (pe_op op_mul pe_int (pe_op op_add (pe_op op_add (pe_op op_mul pe_int (pe_fld (pv 0) rfl)) pe_int) (pv 1))) (pa_cons (pv 3) pa_nil))) rfl)
       (pss_cons (ps_fld (pv 0) (pe_op op_add (pe_op op_mul pe_int (pe_fld (pv 0) rfl)) (pe_op op_mul (pv 1) (pv 2))) rfl)
       (pss_one (ps_if (pt_cmpR op_gt (pe_op op_add (pe_op op_add (pe_glob rfl T.c_SUMMARY_HEAD T.r_SUMMARY_HEAD) (pe_op op_mul pe_int (pe_fld (pv 0) rfl))) (pe_call (ok_parts_of T) (hr.mono (by decide)) rfl T.m_parts_of T.F_parts_of.kp T.b_parts_of .nil pass0 (pa_cons (pe_fld (pv 0) rfl) (pa_cons pe_int pa_nil)))) (pv 3) (nomark _))
       (pss_one ps_never)
       pss_nil)))))))))))))), ?_⟩
    try dsimp only [cxOf, Cx.nox, Cx.wish]
    obtain ⟨p, dx, s, b, z, rfl, hp, hF, q⟩ := h
    obtain ⟨s0, s1, b0, b1, hz, fit⟩ := hF
    have cl := T.cl_Layout
    have na1 := T.na_Layout_segments
    have na2 := T.na_Layout_segment_blocks
    have na3 := T.na_Layout_block_size
    have na4 := T.na_Layout_payload
    have na5 := T.na_Layout_limit
    have na6 := T.na_Layout_last_id
    have na7 := T.na_Layout_fan
    have na8 := T.na_Layout_region_blocks
    have na9 := T.na_Layout_device_blocks
    walk_at "rdo"
    refine r_in (.inr (T.v_BLOCK_SIZES _)) rfl rfl ?_
    walk_at "rd"
    refine r_iteB (in_sizes hz) ?_
    walk_at "rdo"
    refine ⟨_, _, rfl, by omega, by omega, ?_⟩
    walk_at "rdo"
    refine ⟨_, _, rfl, by omega, by omega, ?_⟩
    walk_at "rdo"
    refine q _ _ ?kk (by walk_at "hp") ⟨by walk_at "lk", by walk_at "lk", by walk_at "lk", by walk_at "lk", by walk_at "lk", by walk_at "lk", by walk_at "lk", by walk_at "lk", by walk_at "lk"⟩
    case kk =>
      repeat (refine keep1 ?_ (by assumption))
      exact fun _ _ => rfl
/-- the sizes of a law's layout -/
def sp_lawlay (C : Addr) : Sp := fun vs H Q _ => ∃ r : Int, vs = [.int r] ∧ ∀ (s b z : Int) (H' : Hp) (p : Addr), Fits s b z → Same H H' → H p = none → LayAt C (layOf s b z) H' p → Q (.ref p) H'
theorem made_same {H H1 : Hp} {x dx : Addr} {o : HO} (nx : H x = none) (nd : H dx = none) (k : ∀ q, q ≠ x → H1 q = upd (upd H dx (.own x)) x o q) : Same H H1 := fun b u e => by
  rw [k b (ne_of_none e nx), upd_ne (ne_of_none e nx), upd_ne (ne_of_none e nd)]
  exact e
theorem ok_law_layout (T : Txt K mg) : FnOk P w K mg base CX0 4 T.a_law_layout T.fd_law_layout ["row"] (sp_lawlay T.A_Layout) := by
  refine T.F_law_layout.ok sc_law_layout (fun vs H Q E h => ?_) (fun cdv A outer s H vs Q E hr h => ?_)
  · obtain ⟨r, rfl, _⟩ := h
    rfl
  · refine ⟨_, (pss_cons (ps_asg (pe_call (ok_law_digits T) (hr.mono (by decide)) rfl T.m_law_digits T.F_law_digits.kp T.b_law_digits .nil pass0 (pa_cons (pv 0) (pa_cons (pe_lst (pa_cons pe_int (pa_cons pe_int (pa_cons pe_int (pa_cons pe_int (pa_cons pe_int pa_nil)))))) pa_nil))) (pg_unl (by rfl) (pgs_cons (pg_name (i := 1) sc_law_layout.nd rfl (Or.inl rfl)) (pgs_cons (pg_name (i := 2) sc_law_layout.nd rfl (Or.inl rfl)) (pgs_cons (pg_name (i := 3) sc_law_layout.nd rfl (Or.inl rfl)) (pgs_cons (pg_name (i := 4) sc_law_layout.nd rfl (Or.inl rfl)) (pgs_cons (pg_name (i := 5) sc_law_layout.nd rfl (Or.inl rfl)) pgs_nil)))))))
       (C8.pss_cut (ps_if (pt_cmpR op_eq (pv 1) pe_int (nomark _))
       (pss_cons (ps_set (i := 4) sc_law_layout.nd rfl (Or.inl rfl) (pe_op op_add pe_int (pv 4)))
       (pss_cons (ps_set (i := 5) sc_law_layout.nd rfl (Or.inl rfl) (pe_op op_add pe_int (pv 5)))
       (pss_one (ps_set (i := 3) sc_law_layout.nd rfl (Or.inl rfl) (pe_ix ix_list (pe_lst (pa_cons pe_int (pa_cons pe_int (pa_cons pe_int pa_nil)))) (pv 3) (fun _ _ => rfl))))))
       (pss_cons (ps_set (i := 4) sc_law_layout.nd rfl (Or.inl rfl) (pe_op op_add pe_int (pe_op op_mul (pv 2) (pe_op op_fdiv (pv 1) pe_int))))
       (pss_cons (ps_set (i := 5) sc_law_layout.nd rfl (Or.inl rfl) pe_int)
       (pss_one (ps_set (i := 3) sc_law_layout.nd rfl (Or.inl rfl) pe_int)))))
       (pss_cons (ps_set (i := 6) sc_law_layout.nd rfl (Or.inl rfl) (pe_op op_mul (pe_op op_sub (pv 4) pe_int) (pe_op op_sub (pv 5) pe_int)))
       (pss_cons (ps_if (pt_cmpR op_gt (pe_op op_add (pe_op op_add pe_int (pe_op op_mul pe_int (pe_op op_sub (pv 5) pe_int))) (pe_op op_fdiv (pe_op op_add (pv 6) pe_int) pe_int)) (pv 3) (nomark _))
       (pss_one (ps_ret (pe_make T.M_Layout (ok_Layout___init T) (hr.mono (by decide)) rfl T.m_Layout T.b_Layout___init .nil pass0 (pa_cons pe_int (pa_cons pe_int (pa_cons pe_int pa_nil))))))
       pss_nil)
       (pss_one (ps_ret (pe_make T.M_Layout (ok_Layout___init T) (hr.mono (by decide)) rfl T.m_Layout T.b_Layout___init .nil pass0 (pa_cons (pv 4) (pa_cons (pv 5) (pa_cons (pv 3) pa_nil)))))))))), ?_⟩
    try dsimp only [cxOf, Cx.nox, Cx.wish]
    obtain ⟨r, rfl, q⟩ := h
    walk_at "rd"
    refine ⟨_, _, [4, 3, 3, 13, 17], rfl, by walk_at "hp", by decide, by decide, fun H1 d ds s1 n1 h1 hd => ?_⟩
    obtain _ | ⟨⟨c0, c1⟩, _ | ⟨⟨m0, m1⟩, _ | ⟨⟨z0, z1⟩, _ | ⟨⟨g0, g1⟩, _ | ⟨⟨b0, b1⟩, _ | _⟩⟩⟩⟩⟩ := hd
    rename_i choice more size segments blocks
    walk_at "rd"
    refine r_cut (fun σ' H' => ∃ s b z : Int, 4 ≤ s ∧ s ≤ 16 ∧ 16 ≤ b ∧ b ≤ 32 ∧ (z = 64 ∨ z = 128 ∨ z = 256) ∧ σ' = [some (.int r), some (.int choice), some (.int more), some (.int z), some (.int s), some (.int b), none] ∧ Same H1 H') ?_ ?_
    · walk_at "rd"
      refine r_ite (fun e => ?_) (fun _ => ?_)
      · walk_at "rd"
        have e3 : size = 0 ∨ size = 1 ∨ size = 2 := by omega
        rcases e3 with rfl | rfl | rfl
        · refine r_ixl (by walk_at "hp") rfl ?_
          walk_at "rd"
          exact ⟨_, _, _, by omega, by omega, by omega, by omega, .inl rfl, rfl, by walk_at "sm"⟩
        · refine r_ixl (by walk_at "hp") rfl ?_
          walk_at "rd"
          exact ⟨_, _, _, by omega, by omega, by omega, by omega, .inr (.inl rfl), rfl, by walk_at "sm"⟩
        · refine r_ixl (by walk_at "hp") rfl ?_
          walk_at "rd"
          exact ⟨_, _, _, by omega, by omega, by omega, by omega, .inr (.inr rfl), rfl, by walk_at "sm"⟩
      · walk_at "rd"
        have hc : choice / 2 = 0 ∨ choice / 2 = 1 := by omega
        rcases hc with hc | hc <;> rw [hc] <;> exact ⟨_, _, _, by omega, by omega, by omega, by omega, .inl rfl, rfl, by walk_at "sm"⟩
    rintro _ H2 ⟨s, b, z, s0, s1', b0', b1', hz, rfl, s2⟩
    walk_at "rd"
    have en : (s - 2) * (b - 1) + (b - 1) = (s - 1) * (b - 1) := by
      have e : s - 1 = (s - 2) + 1 := by omega
      rw [e, Int.add_mul, Int.one_mul]
    refine r_ite (fun _ => ?_) (fun hle => ?_)
    · walk_at "rd"
      intro x dx nx nd ne
      have hF : Fits 4 16 64 := ⟨by decide, by decide, by decide, by decide, .inl rfl, by decide⟩
      refine ⟨x, dx, _, _, _, rfl, upd_same, hF, fun H3 fs k h3 hL => ⟨rfl, ?_⟩⟩
      have s3 := made_same nx nd k
      exact q _ _ _ _ _ hF (by walk_at "sm") (by walk_at "nn") ⟨_, _, h3, hL⟩
    · walk_at "rd"
      intro x dx nx nd ne
      have hF : Fits s b z := ⟨s0, s1', b0', b1', hz, by rw [en]; omega⟩
      refine ⟨x, dx, _, _, _, rfl, upd_same, hF, fun H3 fs k h3 hL => ⟨rfl, ?_⟩⟩
      have s3 := made_same nx nd k
      exact q _ _ _ _ _ hF (by walk_at "sm") (by walk_at "nn") ⟨_, _, h3, hL⟩

/-! ### walking rules for numbers drawn from the script, layouts and tables -/
theorem i_row {K : PySem.W.Frag} {args_ : List V} {H : Hp} {Q : V → Hp → Prop} {E : XK} {a : Addr} {ns : List Int} {k : Int} (ev : args_ = [.ref a, .int k]) (hS : SqL K H a (ns.map V.int)) (h63 : ns.length ≤ 63) (k0 : 0 ≤ k) (k1 : k ≤ 1000) (q : ∀ z : Int, 0 ≤ z → Q (.int z) H) : sp_row K args_ H Q E := ⟨a, ns, k, ev, hS, h63, k0, k1, q⟩
local macro_rules | `(tactic| walk_at "ca1") => `(tactic| with_reducible (refine' Sg.i_row ?ev ?hS ?h63 ?k0 ?k1 ?_; (case ev => (with_unfolding_all rfl)); (case hS => (with_unfolding_all walk_at "pr")); (case h63 => (with_unfolding_all walk_at "pr")); (case k0 => (with_unfolding_all walk_at "pr")); (case k1 => (with_unfolding_all walk_at "pr")); intros))

/-- digits one by one -/
def DQ : List Int → (List Int → Prop) → Prop
  | [], k => k []
  | s :: r, k => ∀ d : Int, 0 ≤ d → d < s → DQ r fun ds => k (d :: ds)
theorem DQ.of : ∀ {ss ds : List Int} {k : List Int → Prop}, DQ ss k → Digs ds ss → k ds
  | [], _, _, h, .nil => h
  | s :: r, d :: ds, k, h, .cons hd t => DQ.of (ss := r) (ds := ds) (k := fun ds => k (d :: ds)) (h d hd.1 hd.2) t
def AreInts (vs : List V) (ss : List Int) : Prop := Paired (fun v s => v = V.int s) vs ss
theorem AreInts.map : ∀ {vs : List V} {ss : List Int}, AreInts vs ss → vs = ss.map V.int
  | _, _, .nil => rfl
  | _, _, .cons h t => by rw [h, AreInts.map t]; rfl
theorem AreInts.nil : AreInts [] [] := Paired.nil
theorem AreInts.cons {vs : List V} {ss : List Int} {s : Int} (t : AreInts vs ss) : AreInts (.int s :: vs) (s :: ss) := Paired.cons rfl t
def InR (ss : List Int) : Prop := ∀ s ∈ ss, 0 < s ∧ s < 1000000000000000000
theorem InR.nil : InR [] := fun _ h => nomatch h
theorem InR.cons {s : Int} {ss : List Int} (h0 : 0 < s) (h1 : s < 1000000000000000000) (t : InR ss) : InR (s :: ss) := fun x hx => by
  rcases List.mem_cons.mp hx with rfl | hx
  · exact ⟨h0, h1⟩
  · exact t x hx
theorem i_digits {K : PySem.W.Frag} {args_ : List V} {H : Hp} {Q : V → Hp → Prop} {E : XK} {r : Int} {l : Addr} {vs : List V} {ss : List Int} (ev : args_ = [.int r, .ref l]) (hS : SqL K H l vs) (hv : AreInts vs ss) (hl : ss.length ≤ 1000) (hss : InR ss)
    (q : DQ ss fun ds => ∀ H' d, Same H H' → H d = none → H' d = some (.lst (ds.map V.int)) → Q (.ref d) H') : sp_digits K args_ H Q E :=
  ⟨r, l, ss, ev, hv.map ▸ hS, hl, hss, fun H' d ds s n h hd => DQ.of q hd H' d s n h⟩
local macro_rules | `(tactic| walk_at "arei") => `(tactic| first | exact Sg.AreInts.nil | (refine' Sg.AreInts.cons ?h; (case h => walk_at "arei")))
local macro_rules | `(tactic| walk_at "inr") => `(tactic| first | exact Sg.InR.nil | (refine' Sg.InR.cons ?h0 ?h1 ?h2; (case h0 => first | omega | decide); (case h1 => first | omega | decide); (case h2 => walk_at "inr")))
local macro_rules | `(tactic| walk_at "ca1") => `(tactic| with_reducible (refine' Sg.i_digits ?ev ?hS ?hv ?hl ?hss ?_; (case ev => (with_unfolding_all rfl)); (case hS => (with_unfolding_all walk_at "pr")); (case hv => (with_unfolding_all walk_at "arei")); (case hl => (with_unfolding_all (first | exact Nat.le_of_ble_eq_true rfl | simp))); (case hss => (with_unfolding_all walk_at "inr")); simp only [Sg.DQ, List.map_cons, List.map_nil]; intros))
/-- what is known of a layout's numbers -/
structure LayC (L : Lay) : Prop where
  s0 : 4 ≤ L.seg
  s1 : L.seg ≤ 16
  b0 : 16 ≤ L.blk
  b1 : L.blk ≤ 32
  z0 : 64 ≤ L.size
  z1 : L.size ≤ 256
  pay : L.pay = L.blk - 1
  lim : L.lim = (L.seg - 2) * L.pay
  lst : L.last = L.lim + L.pay
  l0 : 45 ≤ L.last
  l1 : L.last ≤ 465
  fz : 2 * L.fan = L.size
  f0 : 32 ≤ L.fan
  f1 : L.fan ≤ 128
  r0 : 2 ≤ L.reg
  r1 : L.reg ≤ 60
  dv : L.dev = 2 * L.reg + L.seg * L.blk
  d0 : 64 ≤ L.dev
  d1 : L.dev ≤ 1000
  rf0 : 4 * L.last + 6 + L.seg ≤ L.reg * L.fan
  rf1 : L.reg * L.fan ≤ 3000
theorem Fits.all {s b z : Int} (h : Fits s b z) : LayC (layOf s b z) := by
  obtain ⟨s0, s1, b0, b1, hz, _⟩ := h
  have e : (s - 2) * (b - 1) + (b - 1) = (s - 1) * (b - 1) := by
    have e : s - 1 = (s - 2) + 1 := by omega
    rw [e, Int.add_mul, Int.one_mul]
  have h1 : 3 * (b - 1) ≤ (s - 1) * (b - 1) := Int.mul_le_mul_of_nonneg_right (by omega) (by omega)
  have h2 : (s - 1) * (b - 1) ≤ 15 * (b - 1) := Int.mul_le_mul_of_nonneg_right (by omega) (by omega)
  have h3 : 4 * b ≤ s * b := Int.mul_le_mul_of_nonneg_right (by omega) (by omega)
  have h4 : s * b ≤ 16 * b := Int.mul_le_mul_of_nonneg_right (by omega) (by omega)
  have hl : (layOf s b z).last = (s - 1) * (b - 1) := e
  have hr : (layOf s b z).reg = (2 * (4 * ((s - 2) * (b - 1) + (b - 1)) + 6 + s) + z - 1) / z := rfl
  have hf : (layOf s b z).fan = z / 2 := rfl
  have hd : (layOf s b z).dev = 2 * (layOf s b z).reg + s * b := rfl
  have hs : (layOf s b z).seg = s := rfl
  rw [e] at hr
  generalize hL : layOf s b z = L at hl hr hf hd hs
  have pp : L.pay = L.blk - 1 ∧ L.lim = (L.seg - 2) * L.pay ∧ L.last = L.lim + L.pay ∧ L.blk = b ∧ L.size = z ∧ L.dev = 2 * L.reg + L.seg * L.blk := by
    subst hL
    exact ⟨rfl, rfl, rfl, rfl, rfl, rfl⟩
  obtain ⟨p1, p2, p3, p4, p5, p6⟩ := pp
  generalize (s - 1) * (b - 1) = n at h1 h2 hl hr
  generalize hsb : s * b = k at h3 h4 hd
  have key : 2 * L.fan = z ∧ 32 ≤ L.fan ∧ L.fan ≤ 128 ∧ 2 ≤ L.reg ∧ L.reg ≤ 60 ∧ 4 * L.last + 6 + L.seg ≤ L.reg * L.fan ∧ L.reg * L.fan ≤ 3000 := by
    rcases hz with rfl | rfl | rfl
    · rw [hf, show (64 : Int) / 2 = 32 from by decide]; omega
    · rw [hf, show (128 : Int) / 2 = 64 from by decide]; omega
    · rw [hf, show (256 : Int) / 2 = 128 from by decide]; omega
  obtain ⟨k1, k2, k3, k4, k5, k6, k7⟩ := key
  refine ⟨by omega, by omega, by omega, by omega, by omega, by omega, p1, p2, p3, by omega, by omega, by omega, k2, k3, k4, k5, p6, by omega, by omega, k6, k7⟩
local macro_rules | `(tactic| walk_at "pr") => `(tactic| with_reducible (refine' Sg.LayAt.mono ?h1 ?h2; (case h1 => assumption); (case h2 => walk_at "pr")))

theorem i_lawlay {C : Addr} {args_ : List V} {H : Hp} {Q : V → Hp → Prop} {E : XK} {r : Int} (ev : args_ = [.int r]) (q : ∀ (L : Lay) (H' : Hp) (p : Addr), LayC L → Same H H' → H p = none → LayAt C L H' p → Q (.ref p) H') : sp_lawlay C args_ H Q E :=
  ⟨r, ev, fun _ _ _ H' p hF s n hL => q _ H' p hF.all s n hL⟩
local macro_rules | `(tactic| walk_at "ca1") => `(tactic| with_reducible (refine' Sg.i_lawlay ?ev ?_; (case ev => (with_unfolding_all rfl)); intros))

theorem paired_at {α β : Type} {F : α → β → Prop} : ∀ {xs : List α} {ys : List β} {i : Nat} {x : α}, Paired F xs ys → xs[i]? = some x → ∃ y, ys[i]? = some y ∧ F x y
  | _, _, _, _, .nil, e => by simp at e
  | _, _, 0, _, .cons r t, e => by simp at e; subst e; exact ⟨_, rfl, r⟩
  | _, _, i + 1, _, .cons r t, e => by
    obtain ⟨y, e1, h1⟩ := paired_at (i := i) t (by simpa using e)
    exact ⟨y, by simpa using e1, h1⟩
/-! ### what stays: tuples, and what is frozen -/
def Fixed : HO → Prop
  | .tup _ => True
  | .frz _ _ => True
  | _ => False
def Keeps (H H' : Hp) : Prop := ∀ b o, Fixed o → H b = some o → H' b = some o
theorem Keeps.refl (H : Hp) : Keeps H H := fun _ _ _ h => h
theorem Keeps.trans {H H1 H2 : Hp} (a : Keeps H H1) (b : Keeps H1 H2) : Keeps H H2 := fun c o f h => b c o f (a c o f h)
theorem Keeps.of {H H' : Hp} (s : Same H H') : Keeps H H' := fun b o _ h => s b o h
theorem Keeps.upd {H H' : Hp} {l : Addr} {o ol : HO} (h : H l = some ol) (n : ¬ Fixed ol) (e : L2.upd H l o = H') : Keeps H H' := fun b u f q => by
  rw [← e, upd_ne]
  · exact q
  · rintro rfl
    rw [h] at q
    cases q
    exact n f
theorem Keeps.tup {K : PySem.W.Frag} {H H' : Hp} {a : Addr} {xs : List V} (s : Keeps H H') (h : SqT K H a xs) : SqT K H' a xs := by
  rcases h with (h | ⟨o, h⟩) | h
  · exact .inl (.inl (s _ _ trivial h))
  · exact .inl (.inr ⟨o, s _ _ trivial h⟩)
  · exact .inr h
/-- the script, and what stands written -/
theorem Keeps.script {K : PySem.W.Frag} {H H' : Hp} {a : Addr} {o : Obj} {xs : List V} (s : Keeps H H') (h : H a = some (.frz o (.lst xs))) : SqL K H' a xs := .inl (.inr ⟨o, s _ _ trivial h⟩)
theorem SqL.keep {K : PySem.W.Frag} {H H' : Hp} {a d C dx : Addr} {fs : List (Str × V)} {o : HO} {xs : List V} (h : SqL K H a xs) (hd : H d = some (.ins C dx fs)) (e : L2.upd H d o = H') : SqL K H' a xs := by
  rcases h with (h | ⟨o', h⟩) | h
  · exact .inl (.inl (at_keep e h hd (by intro z; cases z)))
  · exact .inl (.inr ⟨o', at_keep e h hd (by intro z; cases z)⟩)
  · exact .inr h
/-- the script: a list that is read for as long as what is fixed stays -/
def Scr (K : PySem.W.Frag) (H : Hp) (a : Addr) (ns : List Int) : Prop := ∀ H', Keeps H H' → SqL K H' a (ns.map V.int)
theorem scr_of {K : PySem.W.Frag} {H : Hp} {a : Addr} {ns : List Int} (hO : Only H) (h : SqL K H a (ns.map V.int)) : Scr K H a ns := fun H' k => by
  rcases h with (h | ⟨o', h⟩) | h
  · rcases hO a with z | ⟨o, xs, z⟩ <;> rw [h] at z <;> cases z
  · exact .inl (.inr ⟨o', k _ _ trivial h⟩)
  · exact .inr h
/-- [e for x in range], its items anything -/
theorem r_lcR {lo : Int} {n slot : Nat} {vs : List Nat} {te : TE} {σ : L2.St} {H : Hp} {Q : V → Hp → Prop} (P : Nat → List V → Hp → Prop) (hn : n ≤ 100000) (hv : vs = [slot])
    (h0 : P 0 [] H)
    (hs : ∀ (i : Nat) (acc : List V) (H0 H' : Hp), i < n → L2.Same H H0 → P i acc H0 → L2.Same H0 H' → ∀ R : V → Hp → Prop,
      (∀ (v : V) (H'' : Hp), L2.Same H' H'' → (∀ D, H0 D = none → H' D = some (.lst acc) → P (i + 1) (acc ++ [v]) (hid D H'')) → R v H'') → te ((wipe σ vs).set slot (some (.int (lo + i)))) H' R)
    (q : ∀ (H' : Hp) (l : Addr) (acc : List V), L2.Same H H' → H l = none → H' l = some (.lst acc) → acc.length = n → P n acc (hid l H') → Q (.ref l) H') :
    kLc (gName slot) tYes te vs σ Q (Itr lo n) H := by
  intro L hL
  have hw : ∀ (τ : L2.St) (x : V), wipe (τ.set slot (some x)) [slot] = wipe τ [slot] := fun τ x => by simp [wipe, List.set_set]
  have hw2 : wipe (wipe σ vs) vs = wipe σ vs := by subst hv; simp [wipe, List.set_set]
  refine lc_range (fun i H' => ∃ acc : List V, acc.length = i ∧ H' L = some (.lst acc) ∧ L2.Same H H' ∧ P i acc (hid L H')) ⟨[], rfl, upd_same, fun b o e => by rw [upd_ne (ne_of_none e hL)]; exact e, by rw [hid_upd, hid_none hL]; exact h0⟩ ?_ ?_
  · rintro i H' hi ⟨acc, el, eL, s, hp⟩
    refine ⟨?_, ?_⟩
    · subst hv
      rw [hw]
      exact hw2
    · show te ((wipe σ vs).set slot (some (.int (lo + i)))) H' _
      refine hs i acc (hid L H') H' hi (same_hid s hL) hp hid_same _ fun v H'' s2 hP => ⟨acc, s2 _ _ eL, ?_, acc ++ [v], ?_, upd_same, ?_, ?_⟩
      · rw [el, sz]
        omega
      · rw [List.length_append, el]; rfl
      · intro b o e
        rw [upd_ne (ne_of_none e hL)]
        exact s2 _ _ (s _ _ e)
      · rw [hid_upd]
        exact hP L hid_at eL
  · rintro H' ⟨acc, el, eL, s, hp⟩
    exact q H' L acc s hL eL el hp
theorem keeps_hid {H : Hp} {D : Addr} {xs : List V} (h : H D = some (.lst xs)) : Keeps H (hid D H) := fun b o f e => by
  rw [hid_ne (ne_of e h (by rintro rfl; exact f))]
  exact e
theorem Keeps.hid {H H' : Hp} {D : Addr} (k : Keeps H H') (n : H D = none) : Keeps H (hid D H') := fun b o f e => by
  rw [hid_ne (ne_of_none e n)]
  exact k _ _ f e
mutual
/-- data of tuples alone -/
def tOnly : PyData → Bool
  | .none => true
  | .bool _ => true
  | .int _ => true
  | .str _ => true
  | .tuple ds => tOnlyAll ds
  | _ => false
def tOnlyAll : List PyData → Bool
  | [] => true
  | d :: ds => tOnly d && tOnlyAll ds
end
mutual
theorem Dp.keeps {K : PySem.W.Frag} {H H' : Hp} (s : Keeps H H') : ∀ (d : PyData) (v : V), tOnly d = true → Dp K H v d → Dp K H' v d
  | .none, _, _, h => by cases h; exact .non
  | .bool b, _, _, h => by cases h; exact .bl b
  | .int i, _, _, h => by cases h; exact .int i
  | .str x, _, _, h => by cases h; exact .str x
  | .list ds, _, t, _ => by simp [tOnly] at t
  | .tuple ds, _, t, h => by
    cases h with
    | tup hs ha => exact .tup (s.tup hs) (DpAll.keeps s ds _ (by simpa [tOnly] using t) ha)
  | .dict _, _, _, h => by cases h
theorem DpAll.keeps {K : PySem.W.Frag} {H H' : Hp} (s : Keeps H H') : ∀ (ds : List PyData) (vs : List V), tOnlyAll ds = true → DpAll K H vs ds → DpAll K H' vs ds
  | [], _, _, h => by cases h; exact .nil
  | d :: ds, _, t, h => by
    cases h with
    | cons h1 h2 =>
      have t' : tOnly d = true ∧ tOnlyAll ds = true := by simpa [tOnlyAll] using t
      exact .cons (Dp.keeps s d _ t'.1 h1) (DpAll.keeps s ds _ t'.2 h2)
end
/-- a block's value: data of tuples, not deep -/
def Bk (K : PySem.W.Frag) (H : Hp) (v : V) : Prop := ∃ d, Dp K H v d ∧ Fl 3 d ∧ tOnly d = true
theorem Bk.keeps {K : PySem.W.Frag} {H H' : Hp} {v : V} (s : Keeps H H') (h : Bk K H v) : Bk K H' v := by
  obtain ⟨d, h1, h2, h3⟩ := h
  exact ⟨d, Dp.keeps s d v h3 h1, h2, h3⟩
theorem Bk.non {K : PySem.W.Frag} {H : Hp} : Bk K H .non := ⟨.none, .non, Fl.non 3, rfl⟩
theorem tOnly_ints : ∀ ns : List Int, tOnlyAll (ns.map PyData.int) = true
  | [] => rfl
  | n :: ns => by rw [List.map_cons, tOnlyAll, tOnly, tOnly_ints ns]; rfl
/-- a block that the text writes: (kind, sequence, rank, body), the body a tuple of ints -/
theorem Bk.mk {K : PySem.W.Frag} {H : Hp} {t b : Addr} {i j k : Int} {ns : List Int} (h : H t = some (.tup [.int i, .int j, .int k, .ref b])) (hb : SqT K H b (ns.map V.int)) : Bk K H (.ref t) :=
  ⟨.tuple [.int i, .int j, .int k, .tuple (ns.map PyData.int)], .tup (.of h) (.cons (.int _) (.cons (.int _) (.cons (.int _) (.cons (.tup hb (DpAll.ints ns)) .nil)))), (Fl.tup (Fl.cons (Fl.int _ _) (Fl.cons (Fl.int _ _) (Fl.cons (Fl.int _ _) (Fl.cons (Fl.ints ns) Fl.nil))))).mono (by decide),
    by simp [tOnly, tOnlyAll, tOnly_ints]⟩
/-- equal values are equal -/
theorem r_neB {K : PySem.W.Frag} {H : Hp} {v : V} {Q : V → Hp → Prop} (h : Bk K H v) (q : Q (.bl false) H) : rNeD K v v H Q := by
  obtain ⟨d, h1, h2, _⟩ := h
  refine r_ned h1 h1 h2.shaped h2.shaped ?_
  rw [h2.self]
  exact q

/-! ### the device -/
structure DevM where
  lay : Addr
  sure : List V
  shown : List V
  wait : List (Int × V)
  left : Option Int
  off : Bool
def leftV : Option Int → V
  | none => .non
  | some n => .int n
structure DevFs (fs : List (Str × V)) (m : DevM) (su sh un : Addr) : Prop where
  few : fs.length ≤ 20
  lay : fs.lookup ("layout" : Str) = some (.ref m.lay)
  sure : fs.lookup ("_sure" : Str) = some (.ref su)
  shown : fs.lookup ("_shown" : Str) = some (.ref sh)
  uns : fs.lookup ("_unsure" : Str) = some (.ref un)
  left : fs.lookup ("_commands_left" : Str) = some (leftV m.left)
  off : fs.lookup ("_power_is_off" : Str) = some (.bl m.off)
  nT : fs.lookup ("_takes_place" : Str) = none
  nR : fs.lookup ("read" : Str) = none
  nW : fs.lookup ("write" : Str) = none
  nB : fs.lookup ("barrier" : Str) = none
  nC : fs.lookup ("cut_after" : Str) = none
  nP : fs.lookup ("pending" : Str) = none
  nS : fs.lookup ("sure_blocks" : Str) = none
  nU : fs.lookup ("was_cut" : Str) = none
  nL : fs.lookup ("left" : Str) = none
  nK : fs.lookup ("fork" : Str) = none
  nG : fs.lookup ("written_blocks" : Str) = none
theorem DevFs.to {fs : List (Str × V)} {m m' : DevM} {su sh un : Addr} (h : DevFs fs m su sh un) (e1 : m'.lay = m.lay) (e2 : m'.left = m.left) (e3 : m'.off = m.off) : DevFs fs m' su sh un := by
  obtain ⟨h1, h2, h3, h4, h5, h6, h7, g1, g2, g3, g4, g5, g6, g7, g8, g9, g10, g11⟩ := h
  exact ⟨h1, by rw [e1]; exact h2, h3, h4, h5, by rw [e2]; exact h6, by rw [e3]; exact h7, g1, g2, g3, g4, g5, g6, g7, g8, g9, g10, g11⟩
/-- a device over what stood ahead of it -/
structure DevIn (C : Addr) (H0 H : Hp) (d : Addr) (m : DevM) : Prop where
  same : Same H0 H
  new : H0 d = none
  at_ : ∃ (dx : Addr) (fs : List (Str × V)) (su sh un : Addr) (us : List Addr), H d = some (.ins C dx fs) ∧ DevFs fs m su sh un ∧ H0 su = none ∧ H0 sh = none ∧ H0 un = none ∧ su ≠ sh ∧ su ≠ un ∧ sh ≠ un ∧
    H su = some (.lst m.sure) ∧ H sh = some (.lst m.shown) ∧ H un = some (.lst (us.map V.ref)) ∧ Paired (fun (u : Addr) (p : Int × V) => H u = some (.tup [.int p.1, p.2])) us m.wait
theorem pairs_keeps {H H' : Hp} (s : Keeps H H') : ∀ {us : List Addr} {ps : List (Int × V)}, Paired (fun (u : Addr) (p : Int × V) => H u = some (.tup [.int p.1, p.2])) us ps → Paired (fun (u : Addr) (p : Int × V) => H' u = some (.tup [.int p.1, p.2])) us ps
  | _, _, .nil => .nil
  | _, _, .cons h t => .cons (s _ _ trivial h) (pairs_keeps s t)
theorem DevIn.mono {C : Addr} {H0 H H' : Hp} {d : Addr} {m : DevM} (s : Same H H') (h : DevIn C H0 H d m) : DevIn C H0 H' d m := by
  obtain ⟨s0, n0, dx, fs, su, sh, un, us, h1, h2, h3, h4, h5, h6, h7, h8, h9, h10, h11, h12⟩ := h
  exact ⟨s0.trans s, n0, dx, fs, su, sh, un, us, s _ _ h1, h2, h3, h4, h5, h6, h7, h8, s _ _ h9, s _ _ h10, s _ _ h11, pairs_keeps (Keeps.of s) h12⟩
/-- what stood ahead of it is changed -/
theorem DevIn.rebase {C : Addr} {H0 H : Hp} {d e : Addr} {m : DevM} {o ol : HO} (h : DevIn C H0 H d m) (he : H0 e = some ol) (hn : ¬ Fixed ol) : DevIn C (upd H0 e o) (upd H e o) d m := by
  obtain ⟨s0, n0, dx, fs, su, sh, un, us, h1, h2, h3, h4, h5, h6, h7, h8, h9, h10, h11, h12⟩ := h
  have ne : ∀ {x : Addr}, H0 x = none → x ≠ e := fun h z => by rw [z, he] at h; cases h
  refine ⟨fun b u q => ?_, by rw [upd_ne (ne n0)]; exact n0, dx, fs, su, sh, un, us, by rw [upd_ne (ne n0)]; exact h1, h2, by rw [upd_ne (ne h3)]; exact h3, by rw [upd_ne (ne h4)]; exact h4, by rw [upd_ne (ne h5)]; exact h5, h6, h7, h8,
    by rw [upd_ne (ne h3)]; exact h9, by rw [upd_ne (ne h4)]; exact h10, by rw [upd_ne (ne h5)]; exact h11, pairs_keeps (Keeps.upd (s0 _ _ he) hn rfl) h12⟩
  by_cases hb : b = e
  · rw [hb, upd_same] at q
    rw [hb, upd_same]
    exact q
  · rw [upd_ne hb] at q
    rw [upd_ne hb]
    exact s0 _ _ q

section
open PySem PySem.Spec PyProof.Rows
/-! ### sorted of a set of ints, of a dict with int keys: of any length -/
/-- the list that `sorted` collects is put in order -/
theorem list_sorted_ints {P : Program} {w : World} {A : Around} {s : Shared} {vs : List Value} {ns : List Int} {n : Nat} {a : Addr} {R : PySem.Fin → Shared → Prop} {E : Value → Shared → Prop} (hI : IntsAre vs ns) (hz : vs.length ≤ sizeLine)
    (ho : s.heap.get? a = some (seqObj "list" vs.toArray n))
    (q : ∀ (out : List Value) (ys : List Int), IntsAre out ys → ys.Perm ns → ys.Pairwise (· ≤ ·) → R (.done (.ret .none)) { s with heap := sortedHeap s.heap a vs out.toArray }) :
    wpAny (model P w) A (Builtin.«list.sort» ⟨[.ref a], []⟩) R E s :=
  SrtO.list_sort_ord SrtO.swo_int ho hz (fun h2 => SrtO.ints_sortable hI h2) fun out h1 h2 => by
    obtain ⟨k1, k2, k3⟩ := SrtO.ints_out hI h1 h2
    exact q out _ k1 k2 k3
def rSortSO (w : World) : List V → Hp → VK → Prop := fun vs H Q => ∃ (a : Addr) (S : Int → Bool) (n : Nat), vs = [V.ref a] ∧ H a = some (SetO w a S n) ∧ n ≤ 1000000 ∧
  ∀ (ns : List Int) (p : Addr), ns.Pairwise (· < ·) → (∀ k : Int, k ∈ ns ↔ S k = true) → ns.length = n → H p = none → Q (.ref p) (upd H p (.lst (ns.map V.int)))
theorem c_sortSO {X : Cx} (hc : X.calm = true) : CallR X (.builtin "sorted") (rSortSO X.w) := by
  intro pins s σ H vs us Q I r h
  obtain ⟨a, S, n, rfl, ha, hn6, q⟩ := h
  obtain ⟨o, es, ep, t, ho, hex, hd, g, nd, hm, hb, hf, hn, hr, hl⟩ := setO_get I ha
  rw [Vals.ref1 r]
  refine Calls.call_function_entry kind_sorted plain_sorted entry_sorted (args_sorted1 _) ?_
  unfold Builtin.«sorted»
  refine wpAny_bind (m := checkCount "sorted" 1 1 _) (wpAny_pure ?_)
  refine wpAny_bind (collect_set (A := X.A.in1) (I.ok.hd hc) ⟨o, ho, hex.1, hd⟩ hf hb hr hl fun s1 vs k1 hz g1 o1 pm => ?_)
  have hvl : vs.length = n := by rw [pm.length_eq, List.length_map, Array.length_toList]; exact hn
  have hI : IntsAre vs (vs.map Builtin.Re.reRawOf) := ints_of vs fun v hv => by
    obtain ⟨e, he, z⟩ := List.mem_map.mp (pm.mem_iff.mp hv)
    obtain ⟨k, tk, h1, _⟩ := g e he
    exact ⟨k, tk, by rw [← z]; exact h1⟩
  have pk : (vs.map Builtin.Re.reRawOf).Perm (es.toList.map keyOf) := by
    have z := pm.map Builtin.Re.reRawOf
    rw [List.map_map] at z
    exact z
  have hsz : vs.length ≤ sizeLine := by rw [hvl, sz]; omega
  refine wpAny_bind (wpAny_newList ?_ hsz)
  have hoL : (s1.heap.push (seqObj "list" vs.toArray 0)).get? s1.heap.objs.size = some (seqObj "list" vs.toArray 0) := Heap.get?_push_size _ rfl
  refine wpAny_bind (wpAny_holding (wpAny_call_entry slot_list_sort ⟨_, hoL, rfl⟩ entry_list_sort (list_sorted_ints (s := { s1 with heap := s1.heap.push (seqObj "list" vs.toArray 0) }) hI hsz hoL fun out ys a1 a2 a3 => ⟨_, rfl, ?_⟩) (args_list_sort _)))
  obtain ⟨c, hcc⟩ := sortedHeap_at (vs := vs) (out := out.toArray) hoL
  have pn : ys.Perm (es.toList.map keyOf) := a2.trans pk
  have hlen : (ys.map V.int).length ≤ sizeLine := by
    rw [List.length_map, a2.length_eq, List.length_map]
    exact hsz
  have hp : H s1.heap.objs.size = none := I.hok.fresh hz
  have J : Inv X pins σ (upd H s1.heap.objs.size (.lst (ys.map V.int))) { s with heap := sortedHeap (s1.heap.push (seqObj "list" vs.toArray 0)) s1.heap.objs.size vs out.toArray, gens := s1.gens, drawn := s1.drawn, toks := s1.toks } :=
    I.call (ch := []) (Un.laid (fun b u e => by
      have z := k1 b u e
      have hlt := Heap.lt_size z
      rw [sortedHeap_old (Nat.ne_of_lt hlt) (by rw [size_push']; exact Nat.lt_succ_of_lt hlt)]
      exact Heap.get?_push_of_some _ z) hz hp) (I.hok.laid (fun b u e => by
      have z := k1 b u e
      have hlt := Heap.lt_size z
      rw [sortedHeap_old (Nat.ne_of_lt hlt) (by rw [size_push']; exact Nat.lt_succ_of_lt hlt)]
      exact Heap.get?_push_of_some _ z) hz ⟨hlen, out, c, vals_of_ints a1, hcc⟩) (by rw [g1]; exact I.bare) (fun _ z => nomatch z)
  have e : ({ s1 with heap := sortedHeap (s1.heap.push (seqObj "list" vs.toArray 0)) s1.heap.objs.size vs out.toArray } : Shared) = { s with heap := sortedHeap (s1.heap.push (seqObj "list" vs.toArray 0)) s1.heap.objs.size vs out.toArray, gens := s1.gens, drawn := s1.drawn, toks := s1.toks } := by
    cases s1
    cases s
    cases o1
    rfl
  have fin : EP X pins σ Q (.ref s1.heap.objs.size) { s with heap := sortedHeap (s1.heap.push (seqObj "list" vs.toArray 0)) s1.heap.objs.size vs out.toArray, gens := s1.gens, drawn := s1.drawn, toks := s1.toks } :=
    ⟨.ref _, _, J, rfl, q ys _ (lt_of_le_nodup ys a3 (pn.nodup_iff.mpr nd)) (fun k => by rw [pn.mem_iff, ← hm k]) (by rw [pn.length_eq, List.length_map, Array.length_toList]; exact hn) hp⟩
  rw [← e] at fin
  exact wpAny_pure ⟨_, rfl, fin⟩
/-- sorted(d) of a dict whose keys are ints -/
def rSortDO : List V → Hp → VK → Prop := fun xs H Q => ∃ (a : Addr) (kvs : List (Key × V)) (ks : List Int), xs = [.ref a] ∧ Rd H a (.dK kvs) ∧ kvs.map (·.1) = ks.map Sum.inl ∧ ks.length ≤ 1000000 ∧
  ∀ (ys : List Int) (p : Addr), ys.Perm ks → ys.Pairwise (· ≤ ·) → H p = none → Q (.ref p) (upd H p (.lst (ys.map V.int)))
theorem c_sortDO {X : Cx} (hc : X.calm = true) : CallR X (.builtin "sorted") rSortDO := by
  intro pins s σ H xs us Q I r q
  obtain ⟨a, kvs, ks, ex, hd, hks, h6, q⟩ := q
  subst ex
  obtain ⟨u, eu, rx⟩ := vals1 r
  subst eu
  cases rx
  obtain ⟨z, lo, vs, rel, dd⟩ := dk_rd I.hok hd
  obtain ⟨ep, hat⟩ := dd.dictAt
  have hkeys : vs.map (·.1) = ks.map Sum.inl := rel.keys.symm.trans hks
  have hl : vs.length = ks.length := by
    have e := congrArg List.length hkeys
    rw [List.length_map, List.length_map] at e
    exact e
  have h16 : vs.length ≤ sizeLine := by rw [hl, sz]; omega
  refine Calls.call_function_entry kind_sorted plain_sorted entry_sorted (args_sorted1 _) ?_
  unfold Builtin.«sorted»
  refine wpAny_bind (m := checkCount "sorted" 1 1 _) (wpAny_pure ?_)
  refine wpAny_bind (PySem.W.kdu_collect (A := X.A.in1) (PySem.W.kdl_dict (knd := mixKind X.prog X.w) (kvs := vs) (ep := ep) lo) (I.ok.hd hc) hat h16 fun h' tk acc hk hacc => ?_)
  have hal : acc.toList.length = ks.length := by rw [Array.length_toList, hacc.1, hl]
  have hI : IntsAre acc.toList ks := ints_each hal fun j v e => by
    obtain ⟨k, x, e1, e2⟩ := hacc.2 j v (by rw [← Array.getElem?_toList]; exact e)
    have e3 : (vs.map (·.1))[j]? = some k := by rw [List.getElem?_map, e1]; rfl
    rw [hkeys, List.getElem?_map] at e3
    obtain ⟨y, e4, e5⟩ := Option.map_eq_some_iff.mp e3
    subst e5
    rcases keyIs_shape (show keyIs (Sum.inl y) v = true from e2) with ⟨i, t, ek, ev⟩ | ⟨z, t, ek, ev⟩ <;> cases ek
    exact ⟨y, t, e4, ev⟩
  have I1 : Inv X pins σ H { s with heap := h', toks := tk } := I.kept hk
  have hsz : acc.toList.length ≤ sizeLine := by rw [hal, sz]; omega
  refine wpAny_bind (wpAny_newList ?_ hsz)
  have hoL : (h'.push (seqObj "list" acc.toList.toArray 0)).get? h'.objs.size = some (seqObj "list" acc.toList.toArray 0) := Heap.get?_push_size _ rfl
  refine wpAny_bind (wpAny_holding (wpAny_call_entry slot_list_sort ⟨_, hoL, rfl⟩ entry_list_sort
    (list_sorted_ints (s := { s with heap := h'.push (seqObj "list" acc.toList.toArray 0), toks := tk }) hI hsz hoL fun out ys g1 g2 g3 => ⟨_, rfl, ?_⟩) (args_list_sort _)))
  obtain ⟨e', he'⟩ := sortedHeap_at (vs := acc.toList) (out := out.toArray) hoL
  have hlen : (ys.map V.int).length ≤ sizeLine := by
    rw [List.length_map, g2.length_eq, ← hal]
    exact hsz
  refine wpAny_pure ⟨_, rfl, .ref h'.objs.size, upd H h'.objs.size (.lst (ys.map V.int)), I1.laid (t' := tk) (fun b u e => ?_) (Nat.le_refl _) (show ObjOk X.prog X.w _ _ _ (.lst (ys.map V.int)) from ⟨hlen, out, e', vals_of_ints g1, he'⟩), rfl, q ys _ g2 g3 (I1.hok.fresh (Nat.le_refl _))⟩
  have hb : b < h'.objs.size := Heap.lt_size e
  rw [sortedHeap_old (Nat.ne_of_lt hb) (by rw [size_push']; exact Nat.lt_succ_of_lt hb)]
  exact Heap.get?_push_of_some _ e

/-! ### enumerate(list, start=k) -/
def Itec (K : PySem.W.Frag) (a : Addr) (c : Int) : It :=
  ⟨fun i H => ∃ (xs : List V) (x : V), SqL K H a xs ∧ xs[i]? = some x, fun i H v H' => ∃ T x, v = .ref T ∧ H T = none ∧ H' = upd H T (.tup [.int (c + (i : Nat)), x]) ∧ ∀ xs, SqL K H a xs → xs[i]? = some x, fun i H => ∃ xs : List V, SqL K H a xs ∧ xs.length ≤ i⟩
theorem draws_list {prog : Program} {w : World} {A : Around} {it l : Addr} {items : Array Value} (hh : A.handled = none) : Draws prog w A it [it, l] items.size (fun i x => items[i]? = some x) (fun i h => h.IsListIter it l i ∧ h.IsList l items ∧ it ≠ l) where
  live := fun i h st => by obtain ⟨⟨o, ho, _⟩, _⟩ := st; exact ⟨o, ho⟩
  frame := fun i h h' st k => ⟨st.1.at fun o q => k it (by simp) o q, st.2.1.at fun o q => k l (by simp) o q, st.2.2⟩
  item := fun i s Q E hi st hQ => wpAny_nextOf_list_item st.1 st.2.1 (x := items[i]) (Array.getElem?_eq_getElem hi) fun h' hit sb => hQ _ h' s.toks (Array.getElem?_eq_getElem hi) ⟨hit, st.2.1.at fun o q => (sb.2 l (Ne.symm st.2.2)).trans q, st.2.2⟩ sb
  done := fun s Q E st hE => wpAny_nextOf_list_end hh st.1 st.2.1 (by simp) hE
theorem turn_enumC {P : Program} {w : World} {K : PySem.W.Frag} {elts : List Expr} {kk : Nat} {tpos : Pos} (a e it : Addr) (c : Int) :
    Turn P w K (.Tuple elts kk tpos) (Itec K a c) [e, it] e (fun i h => (∃ old, IsEnum h e it (c + ((i : Nat) : Int)) old) ∧ h.IsListIter it a i ∧ e ≠ it) where
  mem := by simp
  obj := fun i h st b hb => by
    obtain ⟨⟨old, he⟩, ⟨o, ho, hc, hd⟩, _⟩ := st
    have e' : b = e ∨ b = it := by simpa using hb
    rcases e' with z | z
    · rw [z]; exact ⟨_, he, fun v q => nomatch q⟩
    · rw [z]; exact ⟨o, ho, fun v q => by rw [hd] at q; cases q⟩
  keep := fun i h h' st k => let ⟨⟨old, he⟩, hi, hne⟩ := st; ⟨⟨old, k e (by simp) _ he⟩, hi.at fun o q => k it (by simp) o q, hne⟩
  item := by
    intro X hP hw hK hc i pins s σ H E I hf st hg
    subst hP hw hK
    obtain ⟨⟨old, he⟩, hit, hne⟩ := st
    obtain ⟨xs, x, hq, hx⟩ := hg
    obtain ⟨its, rv, p, hz⟩ := I.list hq
    obtain ⟨u, hu, ru⟩ := rv.get hx
    have hel : e < s.heap.objs.size := Heap.lt_size he
    have hil : it < s.heap.objs.size := by obtain ⟨_, q, _⟩ := hit; exact Heap.lt_size q
    have hia : it ≠ a := fun z => by
      obtain ⟨o1, q1, c1, _⟩ := hit
      obtain ⟨o2, q2, c2, _⟩ := p.isList
      rw [z, q2] at q1
      cases q1
      rw [c2] at c1
      injection c1 with c1
      exact absurd c1 (by decide)
    have hea : e ≠ a := fun z => by
      obtain ⟨o2, q2, c2, _⟩ := p.isList
      rw [z] at he
      have he' : s.heap.get? a = some _ := he
      rw [q2] at he'
      have e3 := congrArg Obj.cls (Option.some.inj he')
      rw [c2] at e3
      injection e3 with e3
      exact absurd e3 (by decide)
    refine wpAny_pyNext_enum_itemC (draws_list (I.ok.hd hc)) he ⟨hit, p.isList, hia⟩ (by simpa using (List.getElem?_eq_some_iff.mp hu).1) hne (by simp [hne, hea]) fun v h' tk hP ho st' hT hsz hk => ?_
    have hv : v = u := by
      have h1 : its.toArray[i]? = some v := hP
      have h2 : its.toArray[i]? = some u := by simpa using hu
      rw [h1] at h2
      exact Option.some.inj h2
    subst hv
    obtain ⟨hit', _, _⟩ := st'
    refine ⟨_, rfl, wpAny_letOwnedTupleGo_enum (s := { s with heap := h', toks := tk + 1 }) ho fun h'' he' sb => ?_⟩
    have hT2 : h''.get? s.heap.objs.size = some { cls := .type "tuple", data := .seq #[.int (c + (i : Nat)) tk, v] } := (sb.2 _ (Nat.ne_of_gt hel)).trans hT
    have new : ObjOk X.prog X.w (upd H s.heap.objs.size (.tup [.int (c + (i : Nat)), x])) h'' s.heap.objs.size (.tup [.int (c + (i : Nat)), x]) :=
      ⟨by show 2 ≤ sizeLine; decide, [.int (c + (i : Nat)) tk, v], .cons ⟨_, rfl⟩ (.cons ru .nil), ⟨_, hT2, rfl, _, rfl⟩⟩
    have I1 : Inv X pins σ (upd H s.heap.objs.size (.tup [.int (c + (i : Nat)), x])) { s with heap := h'', toks := tk + 1 } :=
      I.turnedNew (ch := [e, it]) (fun b ob hb q => (sb.2 b (fun z => hb (by simp [z]))).trans (hk b ob (fun z => hb (by simp [z])) (fun z => hb (by simp [z])) q)) hf (Nat.le_refl _) new
    refine ⟨.ref s.heap.objs.size, _, I1, rfl, ⟨_, x, rfl, I.hok.fresh (Nat.le_refl _), rfl, fun ys hy => by rw [I.list_inj hy hq]; exact hx⟩, ⟨⟨v, ?_⟩, hit'.at fun o q => (sb.2 it (Ne.symm hne)).trans q, hne⟩, fun b hb => ?_⟩
    · have e1 : c + ((i + 1 : Nat) : Int) = c + (i : Int) + 1 := by omega
      rw [e1]; exact he'
    · have hb' : b < s.heap.objs.size := by
        have e' : b = e ∨ b = it := by simpa using hb
        rcases e' with z | z
        · rw [z]; exact hel
        · rw [z]; exact hil
      rw [upd_ne (Nat.ne_of_lt hb')]
      exact (hf b hb).1
  done := by
    intro X hP hw hK hc i pins s σ H E I hf st hg
    subst hP hw hK
    obtain ⟨⟨old, he⟩, hit, hne⟩ := st
    obtain ⟨xs, hq, hx⟩ := hg
    obtain ⟨its, rv, p, hz⟩ := I.list hq
    obtain ⟨f0, f1, f2, f3, f4, f5⟩ := hf it (by simp)
    have hl := rv.length
    have hia : it ≠ a := fun z => by
      obtain ⟨o1, q1, c1, _⟩ := hit
      obtain ⟨o2, q2, c2, _⟩ := p.isList
      rw [z, q2] at q1
      cases q1
      rw [c2] at c1
      injection c1 with c1
      exact absurd c1 (by decide)
    have D : Draws X.prog X.w X.A.in1 it [it, a] i (fun _ _ => True) (fun j h => h.IsListIter it a j ∧ h.IsList a its.toArray ∧ it ≠ a ∧ j = i) :=
      ⟨fun j h st => by obtain ⟨⟨o, ho, _⟩, _⟩ := st; exact ⟨o, ho⟩, fun j h h' st k => ⟨st.1.at fun o q => k it (by simp) o q, st.2.1.at fun o q => k a (by simp) o q, st.2.2⟩, fun j s Q E hj st _ => absurd st.2.2.2 (by omega),
        fun s Q E st hE => wpAny_nextOf_list_end (I.ok.hd hc) st.1 st.2.1 (by simp; omega) hE⟩
    exact wpAny_pyNext_enum_endD D he ⟨hit, p.isList, hia, rfl⟩ fun h' eb => ⟨rfl, I.turned (t' := s.toks) (fun b o hb q => eb b o hb q) f0 f1 f3 f4 f5⟩
  self := fun A i s Q E st h => let ⟨⟨_, he⟩, _⟩ := st; wpAny_pyIter_enum he h
/-- a built-in class called with keywords -/
theorem callWith_typeK {M : Model} {A : Around} {env : Env} {E : Value → Shared → Prop} {s : Shared} {pos : Pos} {T : String} {e : Expr} {rest : List Expr} {kws : List Keyword} {Q : Value → Shared → Prop}
    (h : wpAny M A (spliced (backTo pos (starEach (e :: rest) env))) (fun vs s₁ => wpAny M A (evalAll ((backToKw pos (keywordEach kws env)).map (·.2))) (fun kvs s₂ => wpAny M A (call (.type T) vs (((backToKw pos (keywordEach kws env)).filterMap (·.1)).zip kvs)) Q E s₂) E s₁) E s)
    (he : backTo pos (starEach (e :: rest) env) = (false, eval e env) :: backTo pos (starEach rest env)) (hplain : (backTo pos (starEach (e :: rest) env)).any (·.1) = false)
    (hall : (backToKw pos (keywordEach kws env)).all (·.1.isSome) = true) (hkw : (backToKw pos (keywordEach kws env)).any (·.1.isNone) = false) :
    wpAny M A (callWith pos (.type T) [] (backTo pos (starEach (e :: rest) env)) (backToKw pos (keywordEach kws env))) Q E s := by
  rw [he] at h hplain ⊢
  have g : wpAny M A (evalArgs (.type T) true ((false, eval e env) :: backTo pos (starEach rest env)) (backToKw pos (keywordEach kws env))) (fun a s₁ => wpAny M A (call (.type T) ([] ++ a.pos) a.kw) Q E s₁) E s := evalArgs_kwB hall h
  unfold callWith
  refine wpAny_bind (wpAny_holding (wpAny_mono g (fun a s₁ h₁ => wpAny_bind (wpAny_standAt ?_)) fun _ _ x => x))
  simp only [hplain, hkw, Bool.or_false]
  refine wpAny_bind (wpAny_pure ?_)
  exact wpAny_bind (wpAny_mono h₁ (fun r s₂ hr => wpAny_bind (wpAny_holding (wpAny_point (wpAny_pure hr)))) fun _ _ x => x)
def iEnumC (K : PySem.W.Frag) (ta tk : TA) : TI := fun σ H R => ta σ H fun vs H1 => tk σ H1 fun zs H2 => ∃ a xs k, vs = [.ref a] ∧ zs = [.int k] ∧ 0 ≤ k ∧ k ≤ 1000000 ∧ SqL K H2 a xs ∧ R (Itec K a k) H2
set_option maxHeartbeats 400000 in
theorem pi_enumC {X : Cx} {e : Expr} {kws : List Keyword} {ta tk : TA} {p pos tpos : Pos} {elts : List Expr} {kk : Nat} (hg : Gl X "enumerate") (hm : X.mg "enumerate" = none) (ha : PA X [e] ta) (hk : PK X kws tk)
    (he : backTo pos (starEach [e] X.env) = (false, eval e X.env) :: backTo pos (starEach [] X.env) := by rfl) (hpl : (backTo pos (starEach [e] X.env)).any (·.1) = false := by rfl)
    (hall : (backToKw pos (keywordEach kws X.env)).all (·.1.isSome) = true := by rfl) (hnone : (backToKw pos (keywordEach kws X.env)).any (·.1.isNone) = false := by rfl) (hks : (backToKw pos (keywordEach kws X.env)).filterMap (·.1) = [Str.ofString "start"] := by rfl) :
    PI X (.Tuple elts kk tpos) (.Call (.Name "enumerate" p) [e] kws pos) (iEnumC X.K ta tk) := by
  refine ⟨fun pins s σ H R I h => ?_⟩
  refine wpAny_Call_Name_kw (ld_blt I hg hm boot_enumerate ?_)
  refine callWith_typeK (thn (ha.run pos pins s σ H _ I h) fun us s1 ⟨vs, H1, I1, r1, q1⟩ => thn (hk.run pos pins s1 σ H1 _ I1 q1) fun ws s2 ⟨zs, H2, I2, r2, q2⟩ => ?_) he hpl hall hnone
  rw [hks]
  obtain ⟨a, xs, k, ex, ez, k0, k1, hq, q⟩ := q2
  subst ex ez
  cases r1 with
  | cons r rr =>
    cases rr
    cases r
    cases r2 with
    | cons r' rr' =>
      cases rr'
      obtain ⟨t, rfl⟩ := r'
      obtain ⟨its, rv, p', hz⟩ := I2.list hq
      have ez : [Str.ofString "start"].zip [Value.int k t] = [(Str.ofString "start", Value.int k t)] := rfl
      rw [ez]
      refine enum_begins_start (begins_list a its.toArray) p'.isList (by omega) (by omega) fun h' he' hit hsz hkk => wpAny_pyIter_enum he' ?_
      have I3 : Inv X pins σ H2 { s2 with heap := h' } := I2.kept (t' := s2.toks) hkk
      have hit' : h'.IsListIter s2.heap.objs.size a 0 := ⟨_, hit, rfl, rfl⟩
      refine ⟨s2.heap.objs.size + 1, [s2.heap.objs.size + 1, s2.heap.objs.size], _, _, H2, rfl, I3, turn_enumC a (s2.heap.objs.size + 1) s2.heap.objs.size k, ⟨⟨.none, by simpa using he'⟩, hit', Nat.succ_ne_self _⟩, fun b hb => ?_, q⟩
      have e' : b = s2.heap.objs.size + 1 ∨ b = s2.heap.objs.size := by simpa using hb
      have hle : s2.heap.objs.size ≤ b := by
        rcases e' with z | z
        · rw [z]; exact Nat.le_add_right _ _
        · rw [z]; exact Nat.le_refl _
      exact I2.fpOk hle (I2.hok.fresh hle)

end
/-! ### generators that are walked: code that does not wake a generator leaves it asleep (poi); one run of its code (run1); its body (walk); its sleep (made, next, born); for and comprehensions (cons, lcw) -/
section
open PySem PySem.Spec PyProof.Rows L2 GenW
namespace Wk
section
open PySem.Sem (wp)
/-! ### a generator that sleeps is not touched by code that also runs where it can't be woken -/
/-- it can't be woken -/
def dead : GenState → GenState
  | .suspended _ l c p fs cl => .suspended (fun _ => .unsupported "") l c p fs cl
  | x => x
/-- the generators of Z are dead in D and sleep in G; all others are the same -/
structure Poi (Z : Nat → Prop) (G D : Array GenState) : Prop where
  size : G.size = D.size
  out : ∀ i, ¬ Z i → G[i]? = D[i]? ∧ ∀ k l c p fs cl, D[i]? = some (.suspended k l c p fs cl) → splitAtGen fs = none
  inn : ∀ i, Z i → ∃ k l c p fs cl, G[i]? = some (.suspended k l c p fs cl) ∧ D[i]? = some (.suspended (fun _ => .unsupported "") l c p fs cl)
variable {M : Model} {Z : Nat → Prop} {G D : Array GenState}
theorem no_runs {Γ p w fs s e s'} (h : Runs M Γ p (.unsupported w) fs s e s') : False := by
  generalize ht : (Sem.unsupported w : Sem PySem.Fin) = t at h
  have nil : ∀ {Γ p s e s'}, Runs M Γ p (.unsupported w) [] s e s' → False := fun h => by cases h
  cases h <;> first
    | (cases ht; done)
    | (subst ht; exact nil (by assumption))
theorem Poi.get {i : Nat} (h : Poi Z G D) {x : GenState} (hx : D[i]? = some x) (hn : ∀ l c p fs cl, x ≠ .suspended (fun _ => .unsupported "") l c p fs cl) : ¬ Z i ∧ G[i]? = some x := by
  have nz : ¬ Z i := fun z => by
    obtain ⟨k, l, c, p, fs, cl, _, e⟩ := h.inn i z
    rw [hx] at e
    exact hn _ _ _ _ _ (Option.some.inj e)
  exact ⟨nz, (h.out i nz).1.trans hx⟩
theorem Poi.push (h : Poi Z G D) {c : Code} : Poi Z (G.push (.fresh c)) (D.push (.fresh c)) := by
  refine ⟨by rw [Array.size_push, Array.size_push, h.size], fun i hi => ?_, fun i hi => ?_⟩
  · rw [Array.getElem?_push, Array.getElem?_push, h.size]
    by_cases e : i = D.size
    · rw [if_pos e, if_pos e]
      exact ⟨rfl, fun _ _ _ _ _ _ z => by cases z⟩
    · rw [if_neg e, if_neg e]
      exact h.out i hi
  · obtain ⟨k, l, c', p, fs, cl, e1, e2⟩ := h.inn i hi
    have l1 : i < G.size := by
      rcases Nat.lt_or_ge i G.size with z | z
      · exact z
      · rw [Array.getElem?_eq_none z] at e1; cases e1
    have l2 : i < D.size := by rw [← h.size]; exact l1
    exact ⟨k, l, c', p, fs, cl, by rw [Array.getElem?_push, if_neg (Nat.ne_of_lt l1)]; exact e1, by rw [Array.getElem?_push, if_neg (Nat.ne_of_lt l2)]; exact e2⟩
theorem Poi.set (h : Poi Z G D) {g : Nat} {x : GenState} (hg : ¬ Z g) (hx : ∀ k l c p fs cl, x = .suspended k l c p fs cl → splitAtGen fs = none) : Poi Z (G.setIfInBounds g x) (D.setIfInBounds g x) := by
  refine ⟨by simp [h.size], fun i hi => ?_, fun i hi => ?_⟩
  · rw [Array.getElem?_setIfInBounds, Array.getElem?_setIfInBounds, h.size]
    by_cases e : g = i
    · rw [if_pos e, if_pos e]
      by_cases l : g < D.size
      · rw [if_pos l]
        exact ⟨rfl, fun k l c p fs cl z => hx k l c p fs cl (Option.some.inj z)⟩
      · rw [if_neg l]
        exact ⟨rfl, fun _ _ _ _ _ _ z => by cases z⟩
    · rw [if_neg e, if_neg e]
      exact h.out i hi
  · have ne : g ≠ i := fun e => hg (e ▸ hi)
    obtain ⟨k, l, c', p, fs, cl, e1, e2⟩ := h.inn i hi
    exact ⟨k, l, c', p, fs, cl, by rw [Array.getElem?_setIfInBounds, if_neg ne]; exact e1, by rw [Array.getElem?_setIfInBounds, if_neg ne]; exact e2⟩
theorem set_other {g i : Nat} {x : GenState} (hg : ¬ Z g) (hi : Z i) : (G.setIfInBounds g x)[i]? = G[i]? := by
  have ne : g ≠ i := fun e => hg (by rw [e]; exact hi)
  rw [Array.getElem?_setIfInBounds, if_neg ne]
/-- no frame of a generator among what it sleeps with -/
def Lone (e : End) : Prop := ∀ v g l k c p fs, e = .susp v g l k c p fs → splitAtGen fs = none
theorem Lone.state {e : End} (h : Lone e) : ∀ k l c p fs cl, e.genState = .suspended k l c p fs cl → splitAtGen fs = none := fun k l c p fs cl z => by
  cases e with
  | ret r => cases z
  | susp v g l' k' c' p' fs' =>
    have e : fs' = fs := by injection z
    exact e ▸ h v g l' k' c' p' fs' rfl
theorem Lone.ret {r : Result} : Lone (.ret r) := fun _ _ _ _ _ _ _ z => by cases z
theorem none_append {a b : List Frame} (ha : splitAtGen a = none) (hb : splitAtGen b = none) : splitAtGen (a ++ b) = none := by
  rw [splitAtGen_append_none _ ha, hb]; rfl
theorem none_tail {k h g l c p kp} {fs : List Frame} (hs : splitAtGen (.ret k h g l c p kp :: fs) = none) : splitAtGen fs = none := by
  rw [splitAtGen_ret] at hs
  cases e : splitAtGen fs with
  | none => rfl
  | some x => rw [e] at hs; cases hs
def Res (M : Model) (Z : Nat → Prop) (G : Array GenState) (Γ : PySem.Ctx) (p : Pos) (t : Sem PySem.Fin) (fs : List Frame) (s : Shared) (e : End) (s' : Shared) : Prop :=
  ∃ G', Runs M Γ p t fs { s with gens := G } e { s' with gens := G' } ∧ Poi Z G' s'.gens ∧ (∀ i, Z i → G'[i]? = G[i]?) ∧ Lone e
theorem runs_poi {Γ p t fs s e s'} (h : Runs M Γ p t fs s e s') : splitAtGen fs = none → ∀ G, Poi Z G s.gens → Res M Z G Γ p t fs s e s' := by
  induction h with
  | done => intro _ G hG; exact ⟨G, .done, hG, fun _ _ => rfl, Lone.ret⟩
  | raise => intro _ G hG; exact ⟨G, .raise, hG, fun _ _ => rfl, Lone.ret⟩
  | again hq _ ih => intro hf G hG; obtain ⟨G', a, b, c, d⟩ := ih hf G hG; exact ⟨G', .again hq a, b, c, d⟩
  | rule _ ih => intro hf G hG; obtain ⟨G', a, b, c, d⟩ := ih hf G hG; exact ⟨G', .rule a, b, c, d⟩
  | «at» _ ih => intro hf G hG; obtain ⟨G', a, b, c, d⟩ := ih hf G hG; exact ⟨G', .at a, b, c, d⟩
  | load ho _ ih => intro hf G hG; obtain ⟨G', a, b, c, d⟩ := ih hf G hG; exact ⟨G', .load ho a, b, c, d⟩
  | update ho _ ih => intro hf G hG; obtain ⟨G', a, b, c, d⟩ := ih hf G hG; exact ⟨G', .update ho a, b, c, d⟩
  | loadIfAlive _ ih => intro hf G hG; obtain ⟨G', a, b, c, d⟩ := ih hf G hG; exact ⟨G', .loadIfAlive a, b, c, d⟩
  | point _ ih => intro hf G hG; obtain ⟨G', a, b, c, d⟩ := ih hf G hG; exact ⟨G', .point a, b, c, d⟩
  | alloc _ ih => intro hf G hG; obtain ⟨G', a, b, c, d⟩ := ih hf G hG; exact ⟨G', .alloc a, b, c, d⟩
  | fresh _ ih => intro hf G hG; obtain ⟨G', a, b, c, d⟩ := ih hf G hG; exact ⟨G', .fresh a, b, c, d⟩
  | ask _ ih => intro hf G hG; obtain ⟨G', a, b, c, d⟩ := ih hf G hG; exact ⟨G', .ask a, b, c, d⟩
  | choose hn _ ih => intro hf G hG; obtain ⟨G', a, b, c, d⟩ := ih hf G hG; exact ⟨G', .choose hn a, b, c, d⟩
  | os _ ih => intro hf G hG; obtain ⟨G', a, b, c, d⟩ := ih hf G hG; exact ⟨G', .os a, b, c, d⟩
  | handled _ ih => intro hf G hG; obtain ⟨G', a, b, c, d⟩ := ih hf G hG; exact ⟨G', .handled a, b, c, d⟩
  | stack _ ih => intro hf G hG; obtain ⟨G', a, b, c, d⟩ := ih hf G hG; exact ⟨G', .stack a, b, c, d⟩
  | thread _ ih => intro hf G hG; obtain ⟨G', a, b, c, d⟩ := ih hf G hG; exact ⟨G', .thread a, b, c, d⟩
  | genState hst _ ih =>
    rename_i g st Γ p k s e s' hrun
    intro hf G hG
    obtain ⟨G', a, b, c, d⟩ := ih hf G hG
    by_cases z : Z g
    · obtain ⟨k₀, l, c', p', fs', cl, e1, e2⟩ := hG.inn g z
      rw [hst] at e2
      cases Option.some.inj e2
      exact ⟨G', .genState (st := .suspended k₀ l c' p' fs' cl) e1 a, b, c, d⟩
    · exact ⟨G', .genState ((hG.out g z).1.trans hst) a, b, c, d⟩
  | newGen _ ih =>
    intro hf G hG
    obtain ⟨G', a, b, c, d⟩ := ih hf _ hG.push
    rw [← hG.size] at a
    refine ⟨G', .newGen a, b, fun i hi => ?_, d⟩
    rw [c i hi]
    obtain ⟨k, l, c', p, fs, cl, e1, _⟩ := hG.inn i hi
    have l1 : i < G.size := by
      rcases Nat.lt_or_ge i G.size with z | z
      · exact z
      · rw [Array.getElem?_eq_none z] at e1; cases e1
    rw [Array.getElem?_push, if_neg (Nat.ne_of_lt l1)]
  | call _ _ ih1 ih2 =>
    intro hf G hG
    obtain ⟨G1, a1, b1, c1, _⟩ := ih1 rfl G hG
    obtain ⟨G2, a2, b2, c2, d2⟩ := ih2 hf G1 b1
    exact ⟨G2, .call a1 a2, b2, fun i hi => (c2 i hi).trans (c1 i hi), d2⟩
  | callSusp _ ih =>
    intro hf G hG
    obtain ⟨G1, a1, b1, c1, d1⟩ := ih rfl G hG
    exact ⟨G1, .callSusp a1, b1, c1, fun v g l k c p fs z => by cases z; exact none_append (d1 _ _ _ _ _ _ _ rfl) rfl⟩
  | yield => intro hf G hG; exact ⟨G, .yield, hG, fun _ _ => rfl, fun v g l k c p fs z => by cases z; rfl⟩
  | resumeFresh hg _ hq _ ih1 ih2 =>
    intro hf G hG
    obtain ⟨nz, eg⟩ := hG.get hg (fun _ _ _ _ _ z => by cases z)
    obtain ⟨G1, a1, b1, c1, d1⟩ := ih1 rfl _ (hG.set (x := .running) nz (fun _ _ _ _ _ _ z => by cases z))
    obtain ⟨G2, a2, b2, c2, d2⟩ := ih2 hf _ (b1.set nz d1.state)
    refine ⟨G2, .resumeFresh eg a1 hq a2, b2, fun i hi => ?_, d2⟩
    rw [c2 i hi, set_other nz hi, c1 i hi, set_other nz hi]
  | @resumeSuspended Γ p g r l k s k₀ l₀ c₀ p₀ fs₀ cl e₁ s₁ e s' hg h1 hq _ ih1 ih2 =>
    intro hf G hG
    by_cases z : Z g
    · obtain ⟨k₁, l, c', p', fs', cl, e1, e2⟩ := hG.inn g z
      rw [hg] at e2
      cases Option.some.inj e2
      exact (no_runs h1).elim
    · obtain ⟨eg, cln⟩ := hG.out g z
      obtain ⟨G1, a1, b1, c1, d1⟩ := ih1 (cln _ _ _ _ _ _ hg) _ (hG.set (x := .running) z (fun _ _ _ _ _ _ z => by cases z))
      obtain ⟨G2, a2, b2, c2, d2⟩ := ih2 hf _ (b1.set z d1.state)
      refine ⟨G2, .resumeSuspended (eg.trans hg) a1 hq a2, b2, fun i hi => ?_, d2⟩
      rw [c2 i hi, set_other z hi, c1 i hi, set_other z hi]
  | resumeJustStarted hg hv _ ih =>
    intro hf G hG
    obtain ⟨nz, eg⟩ := hG.get hg (fun _ _ _ _ _ z => by cases z)
    obtain ⟨G', a, b, c, d⟩ := ih hf G hG
    exact ⟨G', .resumeJustStarted eg hv a, b, c, d⟩
  | resumeThrowFresh hg _ ih =>
    intro hf G hG
    obtain ⟨nz, eg⟩ := hG.get hg (fun _ _ _ _ _ z => by cases z)
    obtain ⟨G', a, b, c, d⟩ := ih hf _ (hG.set (x := .finished) nz (fun _ _ _ _ _ _ z => by cases z))
    exact ⟨G', .resumeThrowFresh eg a, b, fun i hi => by rw [c i hi, set_other nz hi], d⟩
  | resumeRunning hg _ ih =>
    intro hf G hG
    obtain ⟨nz, eg⟩ := hG.get hg (fun _ _ _ _ _ z => by cases z)
    obtain ⟨G', a, b, c, d⟩ := ih hf G hG
    exact ⟨G', .resumeRunning eg a, b, c, d⟩
  | resumeFinished hg _ ih =>
    intro hf G hG
    obtain ⟨nz, eg⟩ := hG.get hg (fun _ _ _ _ _ z => by cases z)
    obtain ⟨G', a, b, c, d⟩ := ih hf G hG
    exact ⟨G', .resumeFinished eg a, b, c, d⟩
  | segRet _ _ ih1 ih2 =>
    intro hf G hG
    obtain ⟨G1, a1, b1, c1, _⟩ := ih1 rfl G hG
    obtain ⟨G2, a2, b2, c2, d2⟩ := ih2 (none_tail hf) G1 b1
    exact ⟨G2, .segRet a1 a2, b2, fun i hi => (c2 i hi).trans (c1 i hi), d2⟩
  | segGen _ _ _ _ => intro hf; rw [splitAtGen_gen] at hf; cases hf
  | segSuspOut hs _ ih =>
    intro hf G hG
    obtain ⟨G1, a1, b1, c1, d1⟩ := ih rfl G hG
    exact ⟨G1, .segSuspOut hs a1, b1, c1, fun v g l k c p fs z => by cases z; exact none_append (d1 _ _ _ _ _ _ _ rfl) hf⟩
  | segSuspGen hs _ _ _ _ _ => intro hf; rw [hf] at hs; cases hs
/-! the same for a piece of code under wp -/
theorem wakes_poi {Γ p g r s res s'} (h : Wakes M Γ p g r s res s') (hG : Poi Z G s.gens) : ∃ G', Wakes M Γ p g r { s with gens := G } res { s' with gens := G' } ∧ Poi Z G' s'.gens ∧ ∀ i, Z i → G'[i]? = G[i]? := by
  unfold Wakes at h
  split at h
  · exact h.elim
  · rename_i c hg
    obtain ⟨nz, eg⟩ := hG.get hg (fun _ _ _ _ _ z => by cases z)
    have eg' : ({ s with gens := G } : Shared).gens[g]? = some (.fresh c) := eg
    split at h
    · obtain ⟨e₁, s₁, hr, hq, rfl, rfl⟩ := h
      obtain ⟨G1, a1, b1, c1, d1⟩ := runs_poi hr rfl _ (hG.set (x := .running) nz (fun _ _ _ _ _ _ z => by cases z))
      refine ⟨G1.setIfInBounds g e₁.genState, ?_, b1.set nz d1.state, fun i hi => by rw [set_other nz hi, c1 i hi, set_other nz hi]⟩
      unfold Wakes
      rw [eg']
      exact ⟨e₁, _, a1, hq, rfl, rfl⟩
    · obtain ⟨rfl, rfl⟩ := h
      rename_i v hv
      refine ⟨G, ?_, hG, fun _ _ => rfl⟩
      unfold Wakes
      rw [eg']
      cases v <;> first | exact (hv rfl).elim | exact ⟨rfl, rfl⟩
    · obtain ⟨rfl, rfl⟩ := h
      refine ⟨G.setIfInBounds g .finished, ?_, hG.set nz (fun _ _ _ _ _ _ z => by cases z), fun i hi => set_other nz hi⟩
      unfold Wakes
      rw [eg']
      exact ⟨rfl, rfl⟩
  · rename_i k₀ l₀ c₀ p₀ fs₀ cl hg
    obtain ⟨e₁, s₁, hr, hq, rfl, rfl⟩ := h
    by_cases z : Z g
    · obtain ⟨k₁, l, c', p', fs', cl, e1, e2⟩ := hG.inn g z
      rw [hg] at e2
      cases Option.some.inj e2
      exact (no_runs hr).elim
    · obtain ⟨eg, cln⟩ := hG.out g z
      have eg' : ({ s with gens := G } : Shared).gens[g]? = some (.suspended k₀ l₀ c₀ p₀ fs₀ cl) := eg.trans hg
      obtain ⟨G1, a1, b1, c1, d1⟩ := runs_poi hr (cln _ _ _ _ _ _ hg) _ (hG.set (x := .running) z (fun _ _ _ _ _ _ z => by cases z))
      refine ⟨G1.setIfInBounds g e₁.genState, ?_, b1.set z d1.state, fun i hi => by rw [set_other z hi, c1 i hi, set_other z hi]⟩
      unfold Wakes
      rw [eg']
      exact ⟨e₁, _, a1, hq, rfl, rfl⟩
  · rename_i hg
    obtain ⟨rfl, rfl⟩ := h
    obtain ⟨nz, eg⟩ := hG.get hg (fun _ _ _ _ _ z => by cases z)
    refine ⟨G, ?_, hG, fun _ _ => rfl⟩
    have eg' : ({ s' with gens := G } : Shared).gens[g]? = some .running := eg
    unfold Wakes
    rw [eg']
    exact ⟨rfl, rfl⟩
  · rename_i hg
    obtain ⟨rfl, rfl⟩ := h
    obtain ⟨nz, eg⟩ := hG.get hg (fun _ _ _ _ _ z => by cases z)
    refine ⟨G, ?_, hG, fun _ _ => rfl⟩
    have eg' : ({ s' with gens := G } : Shared).gens[g]? = some .finished := eg
    unfold Wakes
    rw [eg']
    exact ⟨rfl, rfl⟩
/-- behind it: what is wanted holds with the dead ones; those of Z sleep as before -/
def Still (Z : Nat → Prop) (G : Array GenState) (Q : Shared → Prop) (s' : Shared) : Prop := ∃ D, Q { s' with gens := D } ∧ Poi Z s'.gens D ∧ ∀ i, Z i → s'.gens[i]? = G[i]?
theorem Still.of {G0 G1 : Array GenState} {Q : Shared → Prop} {s' : Shared} (h : Still Z G1 Q s') (e : ∀ i, Z i → G1[i]? = G0[i]?) : Still Z G0 Q s' := by
  obtain ⟨D, a, b, c⟩ := h
  exact ⟨D, a, b, fun i hi => (c i hi).trans (e i hi)⟩
theorem wp_poi {α : Type} (Γ : PySem.Ctx) (t : Sem α) : ∀ (Q : α → Pos → Shared → Prop) (E : Value → Pos → Shared → Prop) (p : Pos) (s : Shared) (G : Array GenState), Poi Z G s.gens → wp M Γ t Q E p s →
    wp M Γ t (fun a p' => Still Z G (Q a p')) (fun e p' => Still Z G (E e p')) p { s with gens := G } := by
  induction t with
  | pure a => intro Q E p s G hG h; exact ⟨s.gens, h, hG, fun _ _ => rfl⟩
  | raise e => intro Q E p s G hG h; exact ⟨s.gens, h, hG, fun _ _ => rfl⟩
  | unsupported | finish | yield | fork | await | register => intro Q E p s G _ h; exact h
  | rule _ k ih => intro Q E p s G hG h; exact ih () Q E p s G hG h
  | «at» p' k ih => intro Q E p s G hG h; exact ih () Q E p' s G hG h
  | load a _ k ih => intro Q E p s G hG h; obtain ⟨o, ho, h⟩ := h; exact ⟨o, ho, ih o Q E p s G hG h⟩
  | update a _ f k ih => intro Q E p s G hG h; exact ⟨h.1, ih () Q E p { s with heap := s.heap.update a f } G hG h.2⟩
  | loadIfAlive a k ih => intro Q E p s G hG h; exact ih _ Q E p s G hG h
  | point _ k ih => intro Q E p s G hG h; exact ih () Q E p s G hG h
  | alloc o k ih => intro Q E p s G hG h; exact ih _ Q E p { s with heap := s.heap.push o } G hG h
  | fresh k ih => intro Q E p s G hG h; exact ih _ Q E p { s with toks := s.toks + 1 } G hG h
  | ask k ih => intro Q E p s G hG h; exact ih _ Q E p s G hG h
  | choose src m k ih => intro Q E p s G hG h; exact ⟨h.1, ih _ Q E p { s with drawn := s.drawn.bump src } G hG h.2⟩
  | os q _ k ih => intro Q E p s G hG h; exact ih _ Q E p { s with os := (Os.step s.os q).1 } G hG h
  | call c hd _ _ k ih =>
    intro Q E p s G hG h
    obtain ⟨r, s', hr, h⟩ := h
    obtain ⟨G1, a1, b1, c1, _⟩ := runs_poi hr rfl G hG
    refine ⟨r, _, a1, ?_⟩
    exact Sem.wp_mono M Γ _ (fun _ _ _ z => z.of c1) (fun _ _ _ z => z.of c1) _ _ (ih r Q E p s' G1 b1 h)
  | handled own k ih => intro Q E p s G hG h; exact ih _ Q E p s G hG h
  | genState g k ih =>
    intro Q E p s G hG h
    obtain ⟨st, hst, h⟩ := h
    have r := ih _ Q E p s G hG h
    by_cases z : Z g
    · obtain ⟨k₀, l, c', p', fs', cl, e1, e2⟩ := hG.inn g z
      rw [hst] at e2
      cases Option.some.inj e2
      exact ⟨.suspended k₀ l c' p' fs' cl, e1, r⟩
    · exact ⟨st, (hG.out g z).1.trans hst, r⟩
  | newGen c k ih =>
    intro Q E p s G hG h
    have h : wp M Γ (k s.gens.size) Q E p { s with gens := s.gens.push (.fresh c) } := h
    have r := ih _ Q E p { s with gens := s.gens.push (.fresh c) } _ hG.push h
    rw [← hG.size] at r
    show wp M Γ (k G.size) _ _ p { s with gens := G.push (.fresh c) }
    have e : ∀ i, Z i → (G.push (.fresh c))[i]? = G[i]? := fun i hi => by
      obtain ⟨k, l, c', p, fs, cl, e1, _⟩ := hG.inn i hi
      have l1 : i < G.size := by
        rcases Nat.lt_or_ge i G.size with z | z
        · exact z
        · rw [Array.getElem?_eq_none z] at e1; cases e1
      rw [Array.getElem?_push, if_neg (Nat.ne_of_lt l1)]
    exact Sem.wp_mono M Γ _ (fun _ _ _ z => z.of e) (fun _ _ _ z => z.of e) _ _ r
  | resume g r _ k ih =>
    intro Q E p s G hG h
    obtain ⟨res, s', hw, h⟩ := h
    obtain ⟨G1, a1, b1, c1⟩ := wakes_poi hw hG
    refine ⟨res, _, a1, ?_⟩
    exact Sem.wp_mono M Γ _ (fun _ _ _ z => z.of c1) (fun _ _ _ z => z.of c1) _ _ (ih res Q E p s' G1 b1 h)
  | stack k ih => intro Q E p s G hG h; exact ih _ Q E p s G hG h
  | thread k ih => intro Q E p s G hG h; exact ih _ Q E p s G hG h
/-- this generator sleeps -/
def Sleeps (G : Array GenState) (i : Nat) : Prop := ∃ k l c p fs cl, G[i]? = some (.suspended k l c p fs cl)
theorem poi_all (G : Array GenState) : Poi (Sleeps G) G (G.map dead) := by
  refine ⟨by simp, fun i hi => ?_, fun i hi => ?_⟩
  · rw [Array.getElem?_map]
    cases e : G[i]? with
    | none => exact ⟨rfl, fun _ _ _ _ _ _ z => by cases z⟩
    | some x =>
      cases x with
      | suspended k l c p fs cl => exact (hi ⟨k, l, c, p, fs, cl, e⟩).elim
      | _ => exact ⟨rfl, fun _ _ _ _ _ _ z => by cases z⟩
  · obtain ⟨k, l, c, p, fs, cl, e⟩ := hi
    exact ⟨k, l, c, p, fs, cl, e, by rw [Array.getElem?_map, e]; rfl⟩
theorem wpAny_still {α : Type} {A : Around} {t : Sem α} {Q : α → Shared → Prop} {E : Value → Shared → Prop} {s : Shared} (h : wpAny M A t Q E { s with gens := s.gens.map dead }) :
    wpAny M A t (fun a => Still (Sleeps s.gens) s.gens (Q a)) (fun e => Still (Sleeps s.gens) s.gens (E e)) s := fun Γ p hΓ =>
  wp_poi Γ t (fun a _ s' => Q a s') (fun e _ s' => E e s') p { s with gens := s.gens.map dead } s.gens (poi_all _) (h Γ p hΓ)
end
/-! ### one run of a generator's code, to where it sleeps or ends -/
def Run1 (M : Model) (A : Around) (Φ : End → Shared → Prop) (c : Code) (t : Sem PySem.Fin) (fs : List Frame) (s : Shared) : Prop :=
  ∀ Γ p, Γ.code = c → Γ.Woken A → ∃ e s', Runs M Γ p t fs s e s' ∧ Φ e s'
section
variable {M : Model} {A : Around} {Φ : End → Shared → Prop} {c : Code} {fs : List Frame} {s : Shared} {α β : Type}
theorem r1_wrap {m : Sem α} {K : α → Sem PySem.Fin} {J : Value → Sem PySem.Fin} {gd : Bool → Bool} {lv : List Value → List Value}
    (h : wpAny M (A.over c fs) m (fun a s' => Run1 M A Φ c (K a) fs s') (fun _ _ => False) s) : Run1 M A Φ c (m.wrap K J gd lv) fs s := by
  intro Γ p e hΓ
  subst e
  exact runs_wrap_of_wp K J gd lv m (h (Γ.over fs) p (hΓ.over fs)) (fun _ p' _ z => z Γ p' rfl hΓ) fun _ _ _ z => z.elim
theorem r1_bindw {m : Sem α} {f : α → Sem β} {K : β → Sem PySem.Fin} {J : Value → Sem PySem.Fin} {gd : Bool → Bool} {lv : List Value → List Value}
    (h : wpAny M (A.over c fs) m (fun a s' => Run1 M A Φ c ((f a).wrap K J gd lv) fs s') (fun _ _ => False) s) : Run1 M A Φ c ((m >>= f).wrap K J gd lv) fs s := by
  rw [Sem.bind_eq_wrap' m f, Sem.wrap_wrap]
  exact r1_wrap h
theorem r1_at {q : Pos} {k : Unit → Sem PySem.Fin} (h : Run1 M A Φ c (k ()) fs s) : Run1 M A Φ c (.at q k) fs s := by
  intro Γ p e hΓ
  obtain ⟨x, s', r, z⟩ := h Γ q e hΓ
  exact ⟨x, s', Runs.head (c₁ := Γ.code) (fun _ _ y => .at y) r, z⟩
theorem r1_point {l : List Value} {k : Unit → Sem PySem.Fin} (h : Run1 M A Φ c (k ()) fs s) : Run1 M A Φ c (.point l k) fs s := by
  intro Γ p e hΓ
  obtain ⟨x, s', r, z⟩ := h Γ p e hΓ
  exact ⟨x, s', Runs.head (c₁ := Γ.code) (fun _ _ y => .point y) r, z⟩
theorem r1_call {d : Code} {m : Option Value} {g : Bool} {l : List Value} {k : Result → Sem PySem.Fin} (h : ∀ p, Run1 M A Φ d (M.den d) (.ret k m g l c p [] :: fs) s) : Run1 M A Φ c (.call d m g l k) fs s := by
  intro Γ p e hΓ
  subst e
  obtain ⟨x, s', r, z⟩ := h p (Γ.goto d) p rfl (hΓ.goto d)
  exact ⟨x, s', runs_call_seg r, z⟩
theorem r1_leaf {k : Result → Sem PySem.Fin} {m : Option Value} {g : Bool} {l kp : List Value} {d : Code} {q : Pos} (r : Result) (h : Run1 M A Φ d (k r) fs s) : Run1 M A Φ c (leafOf r) (.ret k m g l d q kp :: fs) s := by
  intro Γ p e hΓ
  subst e
  obtain ⟨x, s', y, z⟩ := h (Γ.goto d) q rfl (hΓ.goto d)
  exact ⟨x, s', Runs.pop r y, z⟩
theorem r1_again {d : Code} (hq : d.quiet = true) (h : Run1 M A Φ d (M.den d) fs s) : Run1 M A Φ c (.pure (.again d)) fs s := by
  intro Γ p e hΓ
  subst e
  obtain ⟨x, s', y, z⟩ := h (Γ.goto d) p rfl (hΓ.goto d)
  exact ⟨x, s', Runs.head (c₁ := d) (fun _ _ w => .again hq w) y, z⟩
theorem r1_end (r : Result) (h : Φ (.ret r) s) : Run1 M A Φ c (leafOf r) [] s := fun _ _ _ _ => ⟨.ret r, s, Runs.leaf r, h⟩
theorem r1_yield {v : Value} {g : Bool} {l : List Value} {k : Resume → Sem PySem.Fin} (hf : splitAtGen fs = none) (h : ∀ p, Φ (.susp v g l k c p fs) s) : Run1 M A Φ c (.yield v g l k) fs s := by
  intro Γ p e _
  subst e
  exact ⟨_, s, Runs.yield' fs hf, h p⟩
end
section
variable {M : Model} {A : Around} {Φ : End → Shared → Prop} {c : Code} {fs : List Frame} {s : Shared} {env : Env} {K : Flow → Sem PySem.Fin} {J : Value → Sem PySem.Fin} {gd : Bool → Bool} {lv : List Value → List Value}
theorem r1_cons {st : Stmt} {rest : List Stmt} (h : Run1 M A Φ c ((exec st env).wrap (fun f => match f with | .next => (execs rest env).wrap K J gd lv | f => K f) J gd lv) fs s) : Run1 M A Φ c ((execs (st :: rest) env).wrap K J gd lv) fs s := by
  rw [execs_cons_wrap]
  exact h
/-- what stands behind a yield -/
def Woke (M : Model) (A : Around) (c : Code) (K : Flow → Sem PySem.Fin) (fs : List Frame) (k : Resume → Sem PySem.Fin) : Prop :=
  ∀ (Ψ : End → Shared → Prop) (s2 : Shared), Run1 M A Ψ c (K .next) fs s2 → Run1 M A Ψ c (k (.send .none)) fs s2
theorem r1_Yield {e : Expr} {yp pos : Pos} (hf : splitAtGen fs = none) (hgd : gd false = false) (hfg : fs.any Frame.guarded = false)
    (h : wpAny M (A.over c fs) (eval e env) (fun v s' => ∀ (g : Bool) (l : List Value) (k : Resume → Sem PySem.Fin) (p : Pos), (End.susp v g l k c p fs).quiet = true → Woke M A c K fs k → Φ (.susp v g l k c p fs) s') (fun _ _ => False) s)
    (hco : env.scope.isCoroutine = false) (hi : interactive env = false) : Run1 M A Φ c ((exec (.Expr (.Yield (some e) yp) pos) env).wrap K J gd lv) fs s := by
  rw [exec_Expr env _ pos hi rfl]
  have hy : ∀ v, yieldOut env v = yieldValue v := fun v => by simp only [yieldOut, hco, Bool.false_eq_true, if_false]
  show Run1 M A Φ c (.at pos fun _ => ((eval e env >>= fun v => (standAt yp >>= fun _ => yieldOut env v)) >>= fun x => dropValue (.Yield (some e) yp) pos x).wrap K J gd lv) fs s
  simp only [hy]
  refine r1_at ?_
  rw [Sem.bind_eq_wrap', Sem.bind_eq_wrap', Sem.wrap_wrap, Sem.wrap_wrap]
  refine r1_wrap (wpAny_mono h (fun v s1 h1 => ?_) fun _ _ z => z)
  refine r1_at (r1_yield hf fun p => h1 _ _ _ p ?_ fun Ψ s2 h2 => h2)
  simp [End.quiet, hfg]
  exact hgd
theorem r1_While {test : Expr} {body : List Stmt} {pos : Pos} (h : ∀ p, Run1 M A Φ (.whileLoop test body [] env) (M.den (.whileLoop test body [] env))
      (.ret (fun r => ((match r with | .ok f => (.pure f : Sem Flow) | .error e => .raise e).onRaise (cameBack env)).wrap K J gd lv) none (gd false) (lv []) c p [] :: fs) s) : Run1 M A Φ c ((exec (.While test body [] pos) env).wrap K J gd lv) fs s :=
  r1_at (r1_call h)
theorem r1_For {tg iter : Expr} {body : List Stmt} {pos : Pos} (hs : ∀ x, foldedSetIterable iter env x = pure x)
    (h : wpAny M (A.over c fs) (eval iter env) (fun x s1 => wpAny M (A.over c fs) (pyIter x) (fun it s2 => ∀ p l2, Run1 M A Φ (.forLoop tg it body [] env) (M.den (.forLoop tg it body [] env))
      (.ret (fun r => ((match r with | .ok f => (.pure f : Sem Flow) | .error e => .raise e).onRaise (cameBack env)).wrap K J gd lv) none (gd false) l2 c p [] :: fs) s2) (fun _ _ => False) s1) (fun _ _ => False) s) :
    Run1 M A Φ c ((exec (.For tg iter body [] pos) env).wrap K J gd lv) fs s := by
  rw [exec_For]
  show Run1 M A Φ c (.at pos fun _ => ((eval iter env >>= fun y => (foldedSetIterable iter env y >>= fun x => (standAt iter.pos >>= fun _ => (holding [x] (pyIter x) >>= fun it => runOwn (.forLoop tg it body [] env) env))))).wrap K J gd lv) fs s
  refine r1_at (r1_bindw (wpAny_mono h (fun x s1 h1 => ?_) fun _ _ z => z))
  rw [hs x]
  show Run1 M A Φ c (.at iter.pos fun _ => ((holding [x] (pyIter x) >>= fun it => runOwn (.forLoop tg it body [] env) env)).wrap K J gd lv) fs s1
  refine r1_at (r1_bindw (wpAny_holding (wpAny_mono h1 (fun it s2 h2 => ?_) fun _ _ z => z)))
  exact r1_call fun p => h2 p _
end
section
variable {prog : Program} {w : World} {A : Around} {Φ : End → Shared → Prop} {fs : List Frame} {s : Shared} {env : Env}
/-- behind a turn of a loop -/
def turned (d : Code) : Flow → Sem PySem.Fin
  | .next => .pure (.again d)
  | .cont => .pure (.again d)
  | .brk => .pure (.done .next)
  | .ret v => .pure (.done (.ret v))
def noteGo (env : Env) (x : Value) : Sem PySem.Fin := (do noteFrame x env; theTreesLotGoes x : Sem Unit).wrap (fun _ => .raise x) .raise id id
theorem r1_whileLoop {test : Expr} {body : List Stmt} (h : wpAny (model prog w) (A.over (.whileLoop test body [] env) fs) (isTrue test env (eval test env)) (fun b s' => match b with
      | true => Run1 (model prog w) A Φ (.whileLoop test body [] env) ((execs body env).wrap (turned (.whileLoop test body [] env)) (noteGo env) id id) fs s'
      | false => Run1 (model prog w) A Φ (.whileLoop test body [] env) (.pure (.done .next)) fs s') (fun _ _ => False) s) :
    Run1 (model prog w) A Φ (.whileLoop test body [] env) ((model prog w).den (.whileLoop test body [] env)) fs s := by
  show Run1 _ A Φ _ ((whileTurn test body [] env).onRaise (fun x => do noteFrame x env; theTreesLotGoes x)) fs s
  unfold whileTurn
  rw [Sem.onRaise_eq_wrap, Sem.bind_eq_wrap', Sem.wrap_wrap]
  have eN : (fun e => ((do noteFrame e env; theTreesLotGoes e : Sem Unit).bind fun _ => (.raise e : Sem PySem.Fin))) = noteGo env := by
    funext e
    rw [Sem.bind_eq_wrap]
    rfl
  refine r1_wrap (wpAny_mono h (fun b s' hb => ?_) fun _ _ z => z)
  cases b with
  | true =>
    show Run1 _ A Φ _ (Sem.wrap _ _ _ _ (if true = true then _ else _)) fs s'
    rw [if_pos rfl, Sem.bind_eq_wrap', Sem.wrap_wrap]
    have e := Sem.wrap_congr (execs body env) (K := fun a => Sem.wrap Sem.pure (fun e => ((do noteFrame e env; theTreesLotGoes e : Sem Unit).bind fun _ => (.raise e : Sem PySem.Fin))) id id ((fun f => match f with
            | .next | .cont => again (.whileLoop test body [] env)
            | .brk => pure (.done .next)
            | .ret v => pure (.done (.ret v)) : Flow → Sem PySem.Fin) a)) (K' := turned (.whileLoop test body [] env)) (H := fun e => ((do noteFrame e env; theTreesLotGoes e : Sem Unit).bind fun _ => (.raise e : Sem PySem.Fin))) (H' := noteGo env) id id (fun f => by cases f <;> rfl) (fun e => congrFun eN e)
    refine Eq.mp ?_ hb
    rw [← e]
    first | rfl | (congr 1; funext a; cases a <;> rfl)
  | false =>
    show Run1 _ A Φ _ (Sem.wrap _ _ _ _ (if false = true then _ else _)) fs s'
    rw [if_neg Bool.false_ne_true]
    exact hb
theorem r1_forLoop {tg : Expr} {it : Value} {body : List Stmt}
    (h : wpAny (model prog w) (A.over (.forLoop tg it body [] env) fs) (pyNext it) (fun r s1 => match r with
      | none => Run1 (model prog w) A Φ (.block [] env) (.pure (.done .next)) fs s1
      | some v => wpAny (model prog w) (A.over (.forLoop tg it body [] env) fs) (letOwnedTupleGo tg it v) (fun _ s2 => wpAny (model prog w) (A.over (.forLoop tg it body [] env) fs) (assign tg env v) (fun _ s3 =>
            Run1 (model prog w) A Φ (.forLoop tg it body [] env) ((execs body env).wrap (turned (.forLoop tg it body [] env)) (noteGo env) id id) fs s3) (fun _ _ => False) s2) (fun _ _ => False) s1) (fun _ _ => False) s) :
    Run1 (model prog w) A Φ (.forLoop tg it body [] env) ((model prog w).den (.forLoop tg it body [] env)) fs s := by
  show Run1 _ A Φ _ ((forTurn tg it body [] env).onRaise (fun x => do noteFrame x env; theTreesLotGoes x)) fs s
  rw [Sem.onRaise_eq_wrap]
  unfold forTurn
  have eN : (fun e => ((do noteFrame e env; theTreesLotGoes e : Sem Unit).bind fun _ => (.raise e : Sem PySem.Fin))) = noteGo env := by
    funext e
    rw [Sem.bind_eq_wrap]
    rfl
  rw [eN]
  clear eN
  let go2 : Flow → Sem PySem.Fin := fun f => match f with
    | .next => again (.forLoop tg it body [] env)
    | .cont => again (.forLoop tg it body [] env)
    | .brk => pure (.done .next)
    | .ret v => pure (.done (.ret v))
  let one : Option Value → Sem PySem.Fin := fun r => match r with
    | none => again (.block [] env)
    | some v => letOwnedTupleGo tg it v >>= fun _ => (assign tg env v >>= fun _ => (execs body env >>= go2))
  show Run1 _ A Φ _ (.at tg.pos fun _ => (((pyNext it).onRaise fun _ => standAt { tg.pos with line := 0 }) >>= one).wrap .pure (noteGo env) id id) fs s
  refine r1_at (r1_bindw (wpAny_onRaise (wpAny_mono h (fun r s1 h1 => ?_) fun _ _ z => z.elim)))
  cases r with
  | none => exact r1_again rfl h1
  | some v =>
    show Run1 _ A Φ _ ((letOwnedTupleGo tg it v >>= fun _ => (assign tg env v >>= fun _ => (execs body env >>= go2))).wrap .pure (noteGo env) id id) fs s1
    refine r1_bindw (wpAny_mono h1 (fun _ s2 h2 => ?_) fun _ _ z => z)
    refine r1_bindw (wpAny_mono h2 (fun _ s3 h3 => ?_) fun _ _ z => z)
    rw [Sem.bind_eq_wrap', Sem.wrap_wrap]
    have e := Sem.wrap_congr (execs body env) (K := fun a => Sem.wrap Sem.pure (noteGo env) id id (go2 a)) (K' := turned (.forLoop tg it body [] env)) (H := fun e => Sem.wrap Sem.pure (noteGo env) id id (Sem.raise e)) (H' := noteGo env) id id (fun f => by cases f <;> rfl) (fun e => rfl)
    exact Eq.mp (by rw [← e]; rfl) h3
theorem r1_func {body : List Stmt} (h : Run1 (model prog w) A Φ (.func body env) ((execs body env).wrap (fun f => .pure (.done (.ret (match f with | .ret v => v | _ => .none)))) (fun e => (leaving env e).wrap (fun _ => .raise e) .raise id id) id id) fs s) :
    Run1 (model prog w) A Φ (.func body env) ((model prog w).den (.func body env)) fs s := by
  show Run1 _ A Φ _ (.point [] fun _ => ((execs body env).onRaise (leaving env)) >>= _) fs s
  refine r1_point ?_
  rw [Sem.onRaise_eq_wrap, Sem.bind_eq_wrap', Sem.wrap_wrap]
  rw [Sem.wrap_congr (execs body env) _ _ (K' := fun f : Flow => (Sem.pure (Fin.done (Flow.ret (match f with | .ret v => v | _ => .none))) : Sem PySem.Fin)) (H' := fun x => (leaving env x).wrap (fun _ => .raise x) .raise id id)
    (fun f => by cases f <;> rfl) (fun x => by rw [Sem.bind_eq_wrap, Sem.wrap_wrap]; rfl)]
  exact h
end
/-! ### what a generator that is walked promises, item by item -/
structure It2 where
  ok : Nat → Hp → Prop
  yld : Nat → Hp → V → Hp → Prop
  fin : Nat → Hp → Hp → Prop
/-- the heap of the objects below N -/
def low (N : Nat) (h : Heap) : Heap := { h with objs := h.objs.extract 0 N }
theorem low_size {N : Nat} {h : Heap} (hn : N ≤ h.objs.size) : (low N h).objs.size = N := by
  show (h.objs.extract 0 N).size = N
  rw [Array.size_extract]
  omega
theorem low_at {N : Nat} {h : Heap} {b : Nat} : (low N h).objs[b]? = if b < N then h.objs[b]? else none := by
  show (h.objs.extract 0 N)[b]? = _
  rw [Array.getElem?_extract]
  by_cases hb : b < N
  · rw [if_pos hb]
    by_cases hs : b < h.objs.size
    · rw [if_pos (by rw [Nat.min_def]; split <;> (simp only [Nat.sub_zero]; assumption)), Nat.zero_add]
    · rw [if_neg (by rw [Nat.min_def]; split <;> (simp only [Nat.sub_zero]; omega)), Array.getElem?_eq_none (Nat.le_of_not_lt hs)]
  · rw [if_neg hb, if_neg (by rw [Nat.min_def]; split <;> (simp only [Nat.sub_zero]; omega))]
theorem low_get {N : Nat} {h : Heap} {b : Addr} : (low N h).get? b = if b < N then h.get? b else none := by
  unfold Heap.get?
  rw [low_at]
  by_cases hb : b < N
  · rw [if_pos hb, if_pos hb]
  · rw [if_neg hb, if_neg hb]
theorem low_some {N : Nat} {h : Heap} {b : Addr} {o : Obj} (e : (low N h).get? b = some o) : b < N ∧ h.get? b = some o := by
  rw [low_get] at e
  by_cases hb : b < N
  · rw [if_pos hb] at e; exact ⟨hb, e⟩
  · rw [if_neg hb] at e; cases e
theorem low_of {N : Nat} {h : Heap} {b : Addr} {o : Obj} (hb : b < N) (e : h.get? b = some o) : (low N h).get? b = some o := by
  rw [low_get, if_pos hb]; exact e
def lowH (N : Nat) (H : Hp) : Hp := fun b => if b < N then H b else none
theorem lowH_lt {N : Nat} {H : Hp} {b : Addr} (hb : b < N) : lowH N H b = H b := if_pos hb
theorem lowH_some {N : Nat} {H : Hp} {b : Addr} {o : HO} (e : lowH N H b = some o) : b < N ∧ H b = some o := by
  unfold lowH at e
  by_cases hb : b < N
  · rw [if_pos hb] at e; exact ⟨hb, e⟩
  · rw [if_neg hb] at e; cases e
/-- what the generator alone knows of, and the rest -/
def join (Pv H : Hp) : Hp := fun b => match Pv b with
  | some o => some o
  | none => H b
theorem join_some {Pv H : Hp} {b : Addr} {o : HO} (e : Pv b = some o) : join Pv H b = some o := by unfold join; rw [e]
theorem join_none {Pv H : Hp} {b : Addr} (e : Pv b = none) : join Pv H b = H b := by unfold join; rw [e]
theorem join_non {Pv H : Hp} {b : Addr} (e : join Pv H b = none) : Pv b = none ∧ H b = none := by
  cases q : Pv b with
  | some o => rw [join_some q] at e; cases e
  | none => rw [join_none q] at e; exact ⟨rfl, e⟩
structure PvOk (L : Nat) (Pv H : Hp) : Prop where
  own : ∀ b o, Pv b = some o → L ≤ b ∧ H b = none ∧ ∃ xs, o = .lst xs
theorem PvOk.no {L : Nat} {Pv H : Hp} (h : PvOk L Pv H) {b : Addr} (hb : b < L) : Pv b = none := by
  cases e : Pv b with
  | none => rfl
  | some o => exact absurd (h.own b o e).1 (Nat.not_le_of_lt hb)
theorem PvOk.out {L : Nat} {Pv H : Hp} (h : PvOk L Pv H) {b : Addr} {o : HO} (e : H b = some o) : Pv b = none := by
  cases q : Pv b with
  | none => rfl
  | some u => rw [(h.own b u q).2.1] at e; cases e
/-- tracked things stay tracked, what never changes stays as it is -/
structure Tame (H H' : Hp) : Prop where
  tups : ∀ b xs, H b = some (.tup xs) → H' b = some (.tup xs)
  frzs : ∀ b o u, H b = some (.frz o u) → H' b = some (.frz o u)
  tbls : ∀ b ps, H b = some (.tbl ps) → ∃ more, H' b = some (.tbl (ps ++ more))
  has : ∀ b, H b ≠ none → H' b ≠ none
theorem Tame.same {H H' : Hp} (s : L2.Same H H') : Tame H H' := ⟨fun b xs e => s b _ e, fun b o u e => s b _ e, fun b ps e => ⟨#[], by rw [s b _ e]; simp⟩, fun b e => by
  cases q : H b with
  | none => exact absurd q e
  | some o => rw [s b o q]; intro z; cases z⟩
/-- where it was woken: the how-manieth time, the state, the heap that all know -/
structure Gh where
  i : Nat
  s : Shared
  H : Hp
def atG (X : Cx) (γ : Gh) : Cx := { X with s_0 := { γ.s with heap := low X.env.locals γ.s.heap }, H_0 := lowH X.env.locals γ.H }
/-- a generator's own context -/
structure Own0 (X : Cx) : Prop where
  ex : X.ex = []
  pn : X.pn = []
  xe : X.xe = fun _ _ => False
  cells : ∀ x, X.env.cells.lookup x = none
structure WInv (X : Cx) (F : List Addr) (γ : Gh) (op : List (Addr × Obj)) (σ : L2.St) (H : Hp) (s : Shared) : Prop where
  own : Own0 X
  size : X.env.locals ≤ γ.s.heap.objs.size
  there : ∀ b ∈ F, ∃ o, γ.s.heap.get? b = some o
  old : ∀ p ∈ op, X.env.locals ≤ p.1
  apart : ∀ p ∈ op, p.1 ∉ F
  inv : Inv (atG X γ) (op ++ pinsAt F γ.s.heap) σ H s
theorem WInv.again {X : Cx} {F : List Addr} {γ : Gh} {op : List (Addr × Obj)} {σ σ' : L2.St} {H H' : Hp} {s s' : Shared} (h : WInv X F γ op σ H s) (I : Inv (atG X γ) (op ++ pinsAt F γ.s.heap) σ' H' s') : WInv X F γ op σ' H' s' := ⟨h.own, h.size, h.there, h.old, h.apart, I⟩
/-- its end, or an item: what is so then -/
def GPost (X : Cx) (A : Around) (F : List Addr) (J : It2) : Nat → Gh → End → Shared → Prop
  | _, γ, .ret r, s => r = .ok (.ret .none) ∧ ∃ op σ Pv H', WInv X F γ op σ (join Pv H') s ∧ PvOk X.env.locals Pv H' ∧ Tame γ.H H' ∧ J.fin γ.i γ.H H'
  | 0, _, .susp .., _ => False
  | n + 1, γ, .susp v g l k c p fs, s => (End.susp v g l k c p fs).quiet = true ∧ ∃ x op σ Pv H', RelV x v ∧ WInv X F γ op σ (join Pv H') s ∧ PvOk X.env.locals Pv H' ∧ Tame γ.H H' ∧ J.yld γ.i γ.H x H' ∧
      ∀ γ' : Gh, γ'.i = γ.i + 1 → WInv X F γ' op σ (join Pv γ'.H) γ'.s → PvOk X.env.locals Pv γ'.H → J.ok γ'.i γ'.H → Run1 (model X.prog X.w) A (GPost X A F J n γ') c (k (.send .none)) fs γ'.s
/-- it sleeps, or has not begun -/
def Stage (X : Cx) (A : Around) (F : List Addr) (J : It2) (n i : Nat) (op : List (Addr × Obj)) (σ : L2.St) (Pv : Hp) (gs : GenState) : Prop :=
  ∀ γ : Gh, γ.i = i → WInv X F γ op σ (join Pv γ.H) γ.s → PvOk X.env.locals Pv γ.H → J.ok γ.i γ.H → match gs with
    | .fresh c => Run1 (model X.prog X.w) A (GPost X A F J n γ) c ((model X.prog X.w).den c) [] γ.s
    | .suspended k _ c _ fs _ => Run1 (model X.prog X.w) A (GPost X A F J n γ) c (k (.send .none)) fs γ.s
    | _ => False
/-! ### statements of its body -/
structure WEnds where
  nx : Gh → L2.St → Hp → Prop
  rt : Gh → V → Hp → Prop
  bk : Gh → L2.St → Hp → Prop := fun _ _ _ => False
  ct : Gh → L2.St → Hp → Prop := fun _ _ _ => False
abbrev TW := WEnds → Gh → L2.St → Hp → Prop
def WEnds.at (D : WEnds) (γ : Gh) : Ends := { nx := D.nx γ, rt := D.rt γ, bk := D.bk γ, ct := D.ct γ }
def WSP (X : Cx) (F : List Addr) (op : List (Addr × Obj)) (D : WEnds) (γ : Gh) (f : Flow) (s : Shared) : Prop := match f with
  | .next => ∃ σ H, WInv X F γ op σ H s ∧ D.nx γ σ H
  | .brk => ∃ σ H, WInv X F γ op σ H s ∧ D.bk γ σ H
  | .cont => ∃ σ H, WInv X F γ op σ H s ∧ D.ct γ σ H
  | .ret u => ∃ v σ H, WInv X F γ op σ H s ∧ RelV v u ∧ D.rt γ v H
theorem wsp_of {X : Cx} {F : List Addr} {op : List (Addr × Obj)} {D : WEnds} {γ : Gh} {f : Flow} {s0 s : Shared} {σ0 : L2.St} {H0 : Hp} (w : WInv X F γ op σ0 H0 s0) (h : SP (atG X γ) (op ++ pinsAt F γ.s.heap) (D.at γ) f s) : WSP X F op D γ f s := by
  cases f with
  | next => obtain ⟨σ, H, I, q⟩ := h; exact ⟨σ, H, w.again I, q⟩
  | brk => obtain ⟨σ, H, I, q⟩ := h; exact ⟨σ, H, w.again I, q⟩
  | cont => obtain ⟨σ, H, I, q⟩ := h; exact ⟨σ, H, w.again I, q⟩
  | ret u => obtain ⟨v, σ, H, I, r, q⟩ := h; exact ⟨v, σ, H, w.again I, r, q⟩
/-- where its code stands -/
structure WC (X : Cx) (A : Around) (c : Code) (fs : List Frame) (gd : Bool → Bool) : Prop where
  over : A.over c fs = X.A
  split : splitAtGen fs = none
  guard : fs.any Frame.guarded = false
  gd : gd false = false
def WK (X : Cx) (A : Around) (F : List Addr) (J : It2) (B : Nat) (op : List (Addr × Obj)) (c : Code) (fs : List Frame) (K : Flow → Sem PySem.Fin) (D : WEnds) : Prop :=
  ∀ (n : Nat) (γ : Gh) (s : Shared) (f : Flow), n + γ.i = B → WSP X F op D γ f s → Run1 (model X.prog X.w) A (GPost X A F J n γ) c (K f) fs s
structure WS (X : Cx) (J : It2) (B : Nat) (st : Stmt) (t : TW) : Prop where
  run : ∀ (A : Around) (F : List Addr) (n : Nat) (op : List (Addr × Obj)) (γ : Gh) (c : Code) (fs : List Frame) (K : Flow → Sem PySem.Fin) (R : Value → Sem PySem.Fin) (gd : Bool → Bool) (lv : List Value → List Value) (s : Shared) (σ : L2.St) (H : Hp) (D : WEnds),
    WC X A c fs gd → n + γ.i = B → WK X A F J B op c fs K D → WInv X F γ op σ H s → t D γ σ H → Run1 (model X.prog X.w) A (GPost X A F J n γ) c ((exec st X.env).wrap K R gd lv) fs s
structure WSs (X : Cx) (J : It2) (B : Nat) (st : List Stmt) (t : TW) : Prop where
  run : ∀ (A : Around) (F : List Addr) (n : Nat) (op : List (Addr × Obj)) (γ : Gh) (c : Code) (fs : List Frame) (K : Flow → Sem PySem.Fin) (R : Value → Sem PySem.Fin) (gd : Bool → Bool) (lv : List Value → List Value) (s : Shared) (σ : L2.St) (H : Hp) (D : WEnds),
    WC X A c fs gd → n + γ.i = B → WK X A F J B op c fs K D → WInv X F γ op σ H s → t D γ σ H → Run1 (model X.prog X.w) A (GPost X A F J n γ) c ((execs st X.env).wrap K R gd lv) fs s
section
variable {X : Cx} {J : It2} {B : Nat} {st : Stmt} {rest : List Stmt}
theorem atG_xe {γ : Gh} (o : Own0 X) : (atG X γ).xe = fun _ _ => False := o.xe
def tWPlain (t : TS) : TW := fun D γ σ H => t (D.at γ) σ H
theorem ws_ps {t : TS} (h : ∀ γ, PS (atG X γ) st t) : WS X J B st (tWPlain t) := by
  refine ⟨fun A F n op γ c fs K R gd lv s σ H D g hn k w ht => r1_wrap ?_⟩
  rw [g.over]
  have r := (h γ).run _ s σ H (D.at γ) w.inv ht
  rw [atG_xe w.own] at r
  exact wpAny_mono r (fun f s' hs => k n γ s' f hn (wsp_of w hs)) fun _ _ z => z
theorem wss_pss {t : TS} (h : ∀ γ, PSs (atG X γ) rest t) : WSs X J B rest (tWPlain t) := by
  refine ⟨fun A F n op γ c fs K R gd lv s σ H D g hn k w ht => r1_wrap ?_⟩
  rw [g.over]
  have r := (h γ).run _ s σ H (D.at γ) w.inv ht
  rw [atG_xe w.own] at r
  exact wpAny_mono r (fun f s' hs => k n γ s' f hn (wsp_of w hs)) fun _ _ z => z
def tW0 : TW := fun D γ σ H => D.nx γ σ H
theorem wss_nil : WSs X J B [] tW0 := ⟨fun A F n op γ c fs K R gd lv s σ H D g hn k w ht => k n γ s .next hn ⟨σ, H, w, ht⟩⟩
def tWThen (t u : TW) : TW := fun D γ σ H => t { D with nx := u D } γ σ H
theorem wss_cons {t u : TW} (a : WS X J B st t) (b : WSs X J B rest u) : WSs X J B (st :: rest) (tWThen t u) := by
  refine ⟨fun A F n op γ c fs K R gd lv s σ H D g hn k w ht => r1_cons ?_⟩
  refine a.run A F n op γ c fs _ R gd lv s σ H { D with nx := u D } g hn (fun n' γ' s' f hn' hs => ?_) w ht
  cases f with
  | next =>
    obtain ⟨σ', H', w', q⟩ := hs
    exact b.run A F n' op γ' c fs K R gd lv s' σ' H' D g hn' k w' q
  | brk => exact k n' γ' s' .brk hn' hs
  | cont => exact k n' γ' s' .cont hn' hs
  | ret u => exact k n' γ' s' (.ret u) hn' hs
/-- a yield -/
def tWYield (L : Nat) (J : It2) (B : Nat) (te : TE) : TW := fun D γ σ H => γ.i < B ∧ te σ H fun x H1 => ∃ Pv H', H1 = join Pv H' ∧ PvOk L Pv H' ∧ Tame γ.H H' ∧ J.yld γ.i γ.H x H' ∧
  ∀ γ' : Gh, γ'.i = γ.i + 1 → J.ok γ'.i γ'.H → PvOk L Pv γ'.H → D.nx γ' σ (join Pv γ'.H)
theorem ws_yield {e : Expr} {yp pos : Pos} {te : TE} (he : ∀ γ, PE (atG X γ) e te) (hco : X.env.scope.isCoroutine = false) (hi : interactive X.env = false) : WS X J B (.Expr (.Yield (some e) yp) pos) (tWYield X.env.locals J B te) := by
  refine ⟨fun A F n op γ c fs K R gd lv s σ H D g hn k w ht => ?_⟩
  obtain ⟨hlt, ht⟩ := ht
  obtain ⟨n, rfl⟩ : ∃ m, n = m + 1 := ⟨n - 1, by omega⟩
  refine r1_Yield g.split g.gd g.guard ?_ hco hi
  rw [g.over]
  have r := (he γ).run _ s σ H _ w.inv ht
  rw [atG_xe w.own] at r
  refine wpAny_mono r (fun v s1 h1 => ?_) fun _ _ z => z
  obtain ⟨x, H1, I1, rv, Pv, H', rfl, pv, tm, y, nxt⟩ := h1
  intro gg l kk p hq hw
  refine ⟨hq, x, op, σ, Pv, H', rv, w.again I1, pv, tm, y, fun γ' hi' w' pv' gs => hw _ _ ?_⟩
  exact k n γ' γ'.s .next (by omega) ⟨σ, _, w', nxt γ' hi' gs pv'⟩
/-- if -/
def tWIf (c : TT) (t u : TW) : TW := fun D γ σ H => c σ H fun b H1 => if b = true then t D γ σ H1 else u D γ σ H1
theorem ws_if {test : Expr} {a b : List Stmt} {pos : Pos} {tc : TT} {t u : TW} (hc : ∀ γ, PT (atG X γ) test tc) (ha : WSs X J B a t) (hb : WSs X J B b u) : WS X J B (.If test a b pos) (tWIf tc t u) := by
  refine ⟨fun A F n op γ c fs K R gd lv s σ H D g hn k w ht => ?_⟩
  show Run1 _ A _ c (.at pos fun _ => ((isTrue test X.env (eval test X.env) >>= fun d => if d = true then execs a X.env else execs b X.env)).wrap K R gd lv) fs s
  refine r1_at (r1_bindw ?_)
  rw [g.over]
  have r := (hc γ).run _ s σ H _ w.inv ht
  rw [atG_xe w.own] at r
  refine wpAny_mono r (fun d s1 h1 => ?_) fun _ _ z => z
  obtain ⟨H1, I1, q1⟩ := h1
  cases d with
  | true =>
    rw [if_pos rfl] at q1 ⊢
    exact ha.run A F n op γ c fs K R gd lv s1 σ H1 D g hn k (w.again I1) q1
  | false =>
    rw [if_neg Bool.false_ne_true] at q1 ⊢
    exact hb.run A F n op γ c fs K R gd lv s1 σ H1 D g hn k (w.again I1) q1
theorem WC.loop {A : Around} {c d : Code} {fs : List Frame} {gd : Bool → Bool} {k : Result → Sem PySem.Fin} {l kp : List Value} {p : Pos} (g : WC X A c fs gd) (hw : d.weight = 0) (hu : d.cUnits = 0) : WC X A d (.ret k none (gd false) l c p kp :: fs) id where
  over := (over_loop hw hu).trans g.over
  split := by rw [splitAtGen_ret, g.split]; rfl
  guard := by
    show (gd false || fs.any Frame.guarded) = false
    rw [g.gd, g.guard]; rfl
  gd := rfl
/-- while -/
def tWWhile (c : TT) (tb : TW) : TW := fun D γ σ H => ∃ W : Nat → Gh → L2.St → Hp → Prop, (∃ m, W m γ σ H) ∧ ∀ m γ σ H, W m γ σ H →
  c σ H fun b H1 => if b = true then ∃ N : Gh → L2.St → Hp → Prop, (∀ γ' σ' H', N γ' σ' H' → ∃ m', m' < m ∧ W m' γ' σ' H') ∧ tb { D with nx := N, ct := N, bk := D.nx } γ σ H1 else D.nx γ σ H1
theorem ws_while {test : Expr} {body : List Stmt} {pos : Pos} {tc : TT} {tb : TW} (hc : ∀ γ, PT (atG X γ) test tc) (hb : WSs X J B body tb) : WS X J B (.While test body [] pos) (tWWhile tc tb) := by
  refine ⟨fun A F n op γ c fs K R gd lv s σ H D g hn k w ht => ?_⟩
  obtain ⟨W, ⟨m0, w0⟩, turn⟩ := ht
  refine r1_While fun p => ?_
  have gl := fun (kk : Result → Sem PySem.Fin) => WC.loop (k := kk) (d := .whileLoop test body [] X.env) (l := lv []) (kp := []) (p := p) g rfl rfl
  suffices loop : ∀ (m n : Nat) (γ : Gh) (s : Shared) (σ : L2.St) (H : Hp), n + γ.i = B → W m γ σ H → WInv X F γ op σ H s → Run1 (model X.prog X.w) A (GPost X A F J n γ) (.whileLoop test body [] X.env) ((model X.prog X.w).den (.whileLoop test body [] X.env))
        (.ret (fun r => ((match r with | .ok f => (.pure f : Sem Flow) | .error e => .raise e).onRaise (cameBack X.env)).wrap K R gd lv) none (gd false) (lv []) c p [] :: fs) s from loop m0 n γ s σ H hn w0 w
  intro m
  induction m using Nat.strongRecOn with
  | ind m ih =>
    intro n γ s σ H hn wm w
    refine r1_whileLoop ?_
    rw [(gl _).over]
    have r := (hc γ).run _ s σ H _ w.inv (turn m γ σ H wm)
    rw [atG_xe w.own] at r
    refine wpAny_mono r (fun b s1 h1 => ?_) fun _ _ z => z
    obtain ⟨H1, I1, q1⟩ := h1
    cases b with
    | true =>
      obtain ⟨N, hN, q1⟩ := q1
      refine hb.run A F n op γ _ _ _ _ id id s1 σ H1 { D with nx := N, ct := N, bk := D.nx } (gl _) hn (fun n' γ' s3 f hn' hs => ?_) (w.again I1) q1
      cases f with
      | next =>
        obtain ⟨σ3, H3, w3, n3⟩ := hs
        obtain ⟨m', hm, wm'⟩ := hN γ' σ3 H3 n3
        exact r1_again rfl (ih m' hm n' γ' s3 σ3 H3 hn' wm' w3)
      | cont =>
        obtain ⟨σ3, H3, w3, n3⟩ := hs
        obtain ⟨m', hm, wm'⟩ := hN γ' σ3 H3 n3
        exact r1_again rfl (ih m' hm n' γ' s3 σ3 H3 hn' wm' w3)
      | brk => exact r1_leaf (.ok .next) (k n' γ' s3 .next hn' hs)
      | ret v => exact r1_leaf (.ok (.ret v)) (k n' γ' s3 (.ret v) hn' hs)
    | false => exact r1_leaf (.ok .next) (k n γ s1 .next hn ⟨σ, H1, w.again I1, q1⟩)
/-- for -/
def tWFor (wi : TI) (g : TG) (tb : TW) : TW := fun D γ σ H => wi σ H fun Jt H2 => ∃ W : Nat → Nat → Gh → L2.St → Hp → Prop, (∃ m, W 0 m γ σ H2) ∧ ∀ i m γ σ H, W i m γ σ H →
  (Jt.stop i H ∧ D.nx γ σ H) ∨ (Jt.go i H ∧ ∃ N : Gh → L2.St → Hp → Prop, (∀ γ' σ' H', N γ' σ' H' → ∃ m', m' < m ∧ W (i + 1) m' γ' σ' H') ∧ ∀ x H', Jt.yld i H x H' → g x σ H' fun σ2 H2 => tb { D with nx := N, ct := N, bk := D.nx } γ σ2 H2)
theorem WInv.pinned {F : List Addr} {γ : Gh} {op : List (Addr × Obj)} {σ : L2.St} {H : Hp} {s : Shared} {fp : List Addr} (w : WInv X F γ op σ H s) (hf : ∀ b ∈ fp, FpOk (atG X γ) (op ++ pinsAt F γ.s.heap) H b ∧ X.env.locals ≤ b ∧ b ∉ F) (ho : ∀ b ∈ fp, ∃ o, s.heap.get? b = some o ∧ ∀ v, o.data ≠ .cell v) :
    WInv X F γ (op ++ pinsAt fp s.heap) σ H s := by
  refine ⟨w.own, w.size, w.there, fun p hp => ?_, fun p hp => ?_, ?_⟩
  · rcases List.mem_append.mp hp with z | z
    · exact w.old p z
    · exact (hf _ (of_pinsAt z).1).2.1
  · rcases List.mem_append.mp hp with z | z
    · exact w.apart p z
    · exact (hf _ (of_pinsAt z).1).2.2
  · have I := w.inv.pinned (fp := fp) (fun b hb => (hf b hb).1) ho
    refine I.pins_of fun p hp => I.pin p (List.mem_append_right _ ?_)
    simp only [List.mem_append] at hp ⊢
    rcases hp with (z | z) | z
    · exact .inl (.inl z)
    · exact .inr z
    · exact .inl (.inr z)
theorem WInv.unpinned {F : List Addr} {γ : Gh} {op pl : List (Addr × Obj)} {σ : L2.St} {H : Hp} {s : Shared} (w : WInv X F γ (op ++ pl) σ H s) : WInv X F γ op σ H s := by
  refine ⟨w.own, w.size, w.there, fun p hp => w.old p (List.mem_append_left _ hp), fun p hp => w.apart p (List.mem_append_left _ hp), w.inv.pins_of fun p hp => w.inv.pin p (List.mem_append_right _ ?_)⟩
  simp only [List.mem_append] at hp ⊢
  rcases hp with z | z
  · exact .inl (.inl z)
  · exact .inr z
/-- its iterator's objects, whenever it was woken -/
theorem WInv.fp {F : List Addr} {γ : Gh} {op : List (Addr × Obj)} {σ : L2.St} {H : Hp} {s : Shared} {b : Addr} (w : WInv X F γ op σ H s) (f : FpOk (atG X γ) (op ++ pinsAt F γ.s.heap) H b) : X.env.locals ≤ b ∧ b ∉ F := by
  obtain ⟨_, _, _, f4, _, f6⟩ := f
  refine ⟨?_, fun hb => ?_⟩
  · rcases f4 with z | z
    · rw [show (atG X γ).ex = [] from w.own.ex] at z; cases z
    · have e : (atG X γ).s_0.heap.objs.size = X.env.locals := low_size w.size
      rw [e] at z
      exact z
  · obtain ⟨o, e⟩ := w.there b hb
    exact f6 (b, o) (List.mem_append_right _ (List.mem_append_right _ (mem_pinsAt hb e))) rfl
theorem fp_woken {F : List Addr} {γ γ' : Gh} {op : List (Addr × Obj)} {σ' : L2.St} {H H' : Hp} {s' : Shared} {b : Addr} (f : FpOk (atG X γ) (op ++ pinsAt F γ.s.heap) H b) (fb : X.env.locals ≤ b ∧ b ∉ F) (w' : WInv X F γ' op σ' H' s') (hn : H' b = none) : FpOk (atG X γ') (op ++ pinsAt F γ'.s.heap) H' b := by
  obtain ⟨_, f2, f3, _, f5, f6⟩ := f
  refine ⟨hn, f2, f3, .inr ?_, f5, fun p hp => ?_⟩
  · have e : (atG X γ').s_0.heap.objs.size = X.env.locals := low_size w'.size
    rw [e]
    exact fb.1
  · rw [show (atG X γ').pn = [] from w'.own.pn, List.nil_append] at hp
    rcases List.mem_append.mp hp with z | z
    · exact f6 p (List.mem_append_right _ (List.mem_append_left _ z))
    · exact fun e => fb.2 (e ▸ (of_pinsAt z).1)
theorem ws_for {tg iter : Expr} {body : List Stmt} {wi : TI} {g : TG} {tb : TW} {pos : Pos} (hc : X.calm = true) (hi : ∀ γ, PI (atG X γ) tg iter wi) (hg : ∀ γ, PG (atG X γ) tg g) (hb : WSs X J B body tb) (hs : ∀ x, foldedSetIterable iter X.env x = pure x) :
    WS X J B (.For tg iter body [] pos) (tWFor wi g tb) := by
  refine ⟨fun A F n op γ c fs K R gd lv s σ H D g0 hn k w ht => ?_⟩
  refine r1_For hs ?_
  rw [g0.over]
  have r := (hi γ).run _ s σ H _ w.inv ht
  rw [atG_xe w.own] at r
  refine wpAny_mono r (fun v s1 h1 => wpAny_mono h1 (fun itv s2 h2 => ?_) fun _ _ z => z) fun _ _ z => z
  obtain ⟨it, fp, tn, Jt, H2, e, I2, T, st2, f2, W, ⟨m0, w0⟩, turn⟩ := h2
  subst e
  intro p l2
  have w2 := w.again I2
  have gl := fun (kk : Result → Sem PySem.Fin) => WC.loop (k := kk) (d := .forLoop tg (.ref it) body [] X.env) (l := l2) (kp := []) (p := p) g0 rfl rfl
  have fb : ∀ b ∈ fp, X.env.locals ≤ b ∧ b ∉ F := fun b hb => w2.fp (f2 b hb)
  have stat : ∀ {γ' : Gh} {σ' : L2.St} {H' : Hp} {s' : Shared}, WInv X F γ' op σ' H' s' → (∀ b ∈ fp, H' b = none) → ∀ b ∈ fp, FpOk (atG X γ') (op ++ pinsAt F γ'.s.heap) H' b := fun w' hn b hb => fp_woken (f2 b hb) (fb b hb) w' (hn b hb)
  suffices loop : ∀ (m i n : Nat) (γ : Gh) (s : Shared) (σ : L2.St) (H : Hp), n + γ.i = B → W i m γ σ H → WInv X F γ op σ H s → tn i s.heap → (∀ b ∈ fp, H b = none) → Run1 (model X.prog X.w) A (GPost X A F J n γ) (.forLoop tg (.ref it) body [] X.env) ((model X.prog X.w).den (.forLoop tg (.ref it) body [] X.env))
        (.ret (fun r => ((match r with | .ok f => (.pure f : Sem Flow) | .error e => .raise e).onRaise (cameBack X.env)).wrap K R gd lv) none (gd false) l2 c p [] :: fs) s from loop m0 0 n γ s2 σ H2 hn w0 w2 st2 fun b hb => (f2 b hb).1
  intro m
  induction m using Nat.strongRecOn with
  | ind m ih =>
    intro i n γ s σ H hn wm w st fr
    refine r1_forLoop ?_
    rw [(gl _).over]
    rcases turn i m γ σ H wm with ⟨stop, qn⟩ | ⟨go, N, hN, step⟩
    · refine wpAny_mono (T.done (atG X γ) rfl rfl rfl hc i _ s σ H (fun _ _ => False) w.inv (stat w fr) st stop) (fun r1 s4 h4 => ?_) fun _ _ z => z
      obtain ⟨hr, I4⟩ := h4
      subst hr
      exact r1_leaf (.ok .next) (k n γ s4 .next hn ⟨σ, H, w.again I4, qn⟩)
    · refine wpAny_mono (T.item (atG X γ) rfl rfl rfl hc i _ s σ H (fun _ _ => False) w.inv (stat w fr) st go) (fun r1 s4 h4 => ?_) fun _ _ z => z
      obtain ⟨u, hr, h4⟩ := h4
      subst hr
      refine wpAny_mono h4 (fun _ s5 h5 => ?_) fun _ _ z => z
      obtain ⟨x, H5, I5, r5, y5, st5, fr5⟩ := h5
      have w5 := w.again I5
      have w5' := w5.pinned (fp := fp) (fun b hb => ⟨stat w5 fr5 b hb, fb b hb⟩) (T.obj _ _ st5)
      have rg := (hg γ).run _ s5 σ H5 x u _ w5'.inv r5 (step x H5 y5)
      rw [atG_xe w.own] at rg
      refine wpAny_mono rg (fun _ s6 h6 => ?_) fun _ _ z => z
      obtain ⟨σ6, H6, I6, q6⟩ := h6
      refine hb.run A F n (op ++ pinsAt fp s5.heap) γ _ _ _ _ id id s6 σ6 H6 { D with nx := N, ct := N, bk := D.nx } (gl _) hn (fun n' γ' s3 f hn' hs => ?_) (w5'.again I6) q6
      have next : ∀ {σ7 : L2.St} {H7 : Hp}, WInv X F γ' (op ++ pinsAt fp s5.heap) σ7 H7 s3 → N γ' σ7 H7 → ∃ m', m' < m ∧ W (i + 1) m' γ' σ7 H7 ∧ WInv X F γ' op σ7 H7 s3 ∧ tn (i + 1) s3.heap ∧ ∀ b ∈ fp, H7 b = none := fun {σ7 H7} w7 n7 => by
        obtain ⟨m', hm, wm'⟩ := hN γ' σ7 H7 n7
        have pin7 : ∀ b ∈ fp, ∀ o, s5.heap.get? b = some o → s3.heap.get? b = some o ∧ H7 b = none := fun b hb o e =>
          have z := w7.inv.pin (b, o) (List.mem_append_right _ (List.mem_append_left _ (List.mem_append_right _ (mem_pinsAt hb e))))
          ⟨z.1, z.2.1⟩
        refine ⟨m', hm, wm', w7.unpinned, T.keep _ _ _ st5 fun b hb o e => (pin7 b hb o e).1, fun b hb => ?_⟩
        obtain ⟨o, e, _⟩ := T.obj _ _ st5 b hb
        exact (pin7 b hb o e).2
      cases f with
      | next =>
        obtain ⟨σ3, H3, w3, n3⟩ := hs
        obtain ⟨m', hm, wm', w3, t3, fr3⟩ := next w3 n3
        exact r1_again rfl (ih m' hm (i + 1) n' γ' s3 σ3 H3 hn' wm' w3 t3 fr3)
      | cont =>
        obtain ⟨σ3, H3, w3, n3⟩ := hs
        obtain ⟨m', hm, wm', w3, t3, fr3⟩ := next w3 n3
        exact r1_again rfl (ih m' hm (i + 1) n' γ' s3 σ3 H3 hn' wm' w3 t3 fr3)
      | brk =>
        obtain ⟨σ3, H3, w3, q3⟩ := hs
        exact r1_leaf (.ok .next) (k n' γ' s3 .next hn' ⟨σ3, H3, w3.unpinned, q3⟩)
      | ret v =>
        obtain ⟨x3, σ3, H3, w3, r3, q3⟩ := hs
        exact r1_leaf (.ok (.ret v)) (k n' γ' s3 (.ret v) hn' ⟨x3, σ3, H3, w3.unpinned, r3, q3⟩)
end
/-! ### what the generator keeps to itself, whoever looks -/
structure OwnF (X : Cx) (op : List (Addr × Obj)) (σ : L2.St) (Pv : Hp) (h : Heap) : Prop where
  loc : ∃ m, h.Ns X.env.locals m ∧ ∀ (i : Nat) (x : Str) (v : V), X.N[i]? = some x → σ[i]? = some (some v) → Vis X.env.scope x → ∃ u, RelV v u ∧ Look X.env h m x u
  op : ∀ p ∈ op, h.get? p.1 = some p.2 ∧ p.1 ≠ X.env.locals ∧ p.1 ∉ X.fs ∧ (∀ v, p.2.data ≠ .cell v) ∧ X.env.locals ≤ p.1 ∧ Pv p.1 = none
  pv : ∀ b o, Pv b = some o → X.env.locals ≤ b ∧ ∃ xs, o = .lst xs ∧ ObjOk X.prog X.w (fun _ => none) h b (.lst xs)
  free : Pv X.env.locals = none
  len : σ.length = X.N.length
/-- its objects -/
def mine (X : Cx) (op : List (Addr × Obj)) (Pv : Hp) (b : Addr) : Prop := b = X.env.locals ∨ (∃ p ∈ op, p.1 = b) ∨ (Pv b).isSome = true
theorem OwnF.keep {X : Cx} {op : List (Addr × Obj)} {σ : L2.St} {Pv : Hp} {h h' : Heap} (hc : ∀ x, X.env.cells.lookup x = none) (f : OwnF X op σ Pv h) (k : ∀ b o, mine X op Pv b → h.get? b = some o → h'.get? b = some o) : OwnF X op σ Pv h' := by
  obtain ⟨⟨m, hn, hl⟩, h2, h3, h4, h5⟩ := f
  refine ⟨⟨m, hn.at' fun o e => k _ o (.inl rfl) e, fun i x v e1 e2 e3 => ?_⟩, fun p hp => ?_, fun b o e => ?_, h4, h5⟩
  · obtain ⟨u, r, l⟩ := hl i x v e1 e2 e3
    refine ⟨u, r, ?_⟩
    rcases l with l | ⟨_, c, e, _⟩
    · exact .inl l
    · rw [hc x] at e; cases e
  · obtain ⟨e, r⟩ := h2 p hp
    exact ⟨k _ _ (.inr (.inl ⟨p, hp, rfl⟩)) e, r⟩
  · obtain ⟨e1, xs, e2, ok⟩ := h3 b o e
    refine ⟨e1, xs, e2, ok.stay (fun c u hc q => ?_) (fun _ q => by cases q) fun _ _ q => by cases q⟩
    rcases hc with z | z
    · exact k c u (.inr (.inr (by rw [z, e]; rfl))) q
    · cases z
theorem WInv.ownF {X : Cx} {F : List Addr} {γ : Gh} {op : List (Addr × Obj)} {σ : L2.St} {Pv H : Hp} {s : Shared} (w : WInv X F γ op σ (join Pv H) s) (pv : PvOk X.env.locals Pv H) : OwnF X op σ Pv s.heap := by
  have I := w.inv
  refine ⟨I.loc, fun p hp => ?_, fun b o e => ?_, (join_non I.free).1, I.len⟩
  · obtain ⟨e, n, ne, nf, d⟩ := I.pin p (List.mem_append_right _ (List.mem_append_left _ hp))
    exact ⟨e, ne, nf, d, w.old p hp, (join_non n).1⟩
  · obtain ⟨l, _, xs, rfl⟩ := pv.own b o e
    refine ⟨l, xs, rfl, ?_⟩
    have q := I.hok b _ (join_some e)
    exact q
/-- what stays the same of its context -/
structure Held (X : Cx) : Prop where
  own : Own0 X
  ok : ∃ γ : Gh, X.env.locals ≤ γ.s.heap.objs.size ∧ (atG X γ).Ok
/-- what must be so where it is woken -/
structure Meet (X : Cx) (F : List Addr) (op : List (Addr × Obj)) (Pv H : Hp) (s : Shared) : Prop where
  size : X.env.locals ≤ s.heap.objs.size
  bare : AllBare s.gens
  hok : HOk X.prog X.w H s.heap
  bs : ∀ b o, X.base.get? b = some o → s.heap.get? b = some o ∧ H b = none
  funs : s.heap.FunFrames X.base X.outer
  frl : ∀ b ∈ X.fs, b < X.env.locals ∧ H b = none
  out : ∀ b ∈ F, (∃ o, s.heap.get? b = some o ∧ ∀ v, o.data ≠ .cell v) ∧ H b = none ∧ b ≠ X.env.locals ∧ b ∉ X.fs ∧ Pv b = none ∧ ∀ p ∈ op, p.1 ≠ b
  non : ∀ b, mine X op Pv b → H b = none
theorem funs_low {base : Heap} {N : Nat} {h : Heap} : ∀ {l : List Env}, h.FunFrames base l → (∀ b ∈ frs l, b < N) → (low N h).FunFrames base l
  | [], _, _ => trivial
  | e :: r, ⟨k, ⟨L, o, hf, hn, ho, hd⟩, hr⟩, hb => by
    refine ⟨k, ⟨L, o, hf, hn, low_of (hb L ?_) ho, hd⟩, funs_low hr fun b hm => hb b ?_⟩
    · exact List.mem_filterMap.mpr ⟨e, List.mem_cons_self, hf⟩
    · obtain ⟨e', h1, h2⟩ := List.mem_filterMap.mp hm
      exact List.mem_filterMap.mpr ⟨e', List.mem_cons_of_mem _ h1, h2⟩
theorem woken {X : Cx} {F : List Addr} {op : List (Addr × Obj)} {σ : L2.St} {Pv : Hp} {γ : Gh} (hd : Held X) (f : OwnF X op σ Pv γ.s.heap) (m : Meet X F op Pv γ.H γ.s) : WInv X F γ op σ (join Pv γ.H) γ.s ∧ PvOk X.env.locals Pv γ.H := by
  obtain ⟨own, γ0, hz, ok⟩ := hd
  have pv : PvOk X.env.locals Pv γ.H := ⟨fun b o e => by
    obtain ⟨l, xs, e2, _⟩ := f.pv b o e
    exact ⟨l, m.non b (.inr (.inr (by rw [e]; rfl))), xs, e2⟩⟩
  have ls : (low X.env.locals γ.s.heap).objs.size = X.env.locals := low_size m.size
  have ls0 : (low X.env.locals γ0.s.heap).objs.size = X.env.locals := low_size hz
  have bl : X.base.objs.size ≤ X.env.locals := by
    have z : X.base.objs.size ≤ (low X.env.locals γ0.s.heap).objs.size := ok.bsz
    rw [ls0] at z; exact z
  have pin : ∀ p ∈ op ++ pinsAt F γ.s.heap, γ.s.heap.get? p.1 = some p.2 ∧ join Pv γ.H p.1 = none ∧ p.1 ≠ X.env.locals ∧ p.1 ∉ X.fs ∧ ∀ v, p.2.data ≠ .cell v := fun p hp => by
    rcases List.mem_append.mp hp with z | z
    · obtain ⟨e, ne, nf, d, _, n⟩ := f.op p z
      exact ⟨e, by rw [join_none n]; exact m.non _ (.inr (.inl ⟨p, z, rfl⟩)), ne, nf, d⟩
    · obtain ⟨hb, e⟩ := of_pinsAt z
      obtain ⟨⟨o, e', d⟩, n, ne, nf, np, _⟩ := m.out p.1 hb
      rw [e] at e'
      cases e'
      exact ⟨e, by rw [join_none np]; exact n, ne, nf, d⟩
  refine ⟨⟨own, m.size, fun b hb => ?_, fun p hp => (f.op p hp).2.2.2.2.1, fun p hp z => (m.out p.1 z).2.2.2.2.2 p hp rfl, ?_⟩, pv⟩
  · obtain ⟨⟨o, e, _⟩, _⟩ := m.out b hb
    exact ⟨o, e⟩
  refine ⟨⟨ok.mod, ok.kind, ok.glob, ok.blt, ?_, ok.inj, ok.has, fun x c _ e => ?_, ok.hd, ok.frames, ok.stk, ok.exf, fun b o e => ?_, ?_, ok.noex, ok.exfs, ?_, fun b hb => ?_⟩, rfl, m.bare, ⟨fun b o e n hb hx => (low_some e).2, fun b o e n hb hx => ⟨o.slots, (low_some e).2⟩, fun b o e n hx => ?_, fun b o e hx => ⟨o, (low_some e).2⟩, fun b xs e => ?_, fun b o u e => ?_, fun b ps e => ?_⟩,
    f.loc, fun x c e => ?_, ?_, fun x c e => ?_, fun p hp => ?_, fun b o e => ?_, f.len⟩
  · show (low X.env.locals γ.s.heap).objs.size ≤ _
    rw [ls]
    exact Nat.le_refl _
  · have e : X.env.cells.lookup x = some c := e
    rw [own.cells x] at e; cases e
  · have lt : b < X.env.locals := Nat.lt_of_lt_of_le (Heap.lt_size e) bl
    obtain ⟨h1, h2⟩ := m.bs b o e
    refine ⟨low_of lt h1, ?_⟩
    show lowH X.env.locals γ.H b = none
    rw [lowH_lt lt]
    exact h2
  · show X.base.objs.size ≤ (low X.env.locals γ.s.heap).objs.size
    rw [ls]
    exact bl
  · exact funs_low m.funs fun b hb => (m.frl b hb).1
  · show lowH X.env.locals γ.H b = none
    rw [lowH_lt (m.frl b hb).1]
    exact (m.frl b hb).2
  · obtain ⟨lt, _⟩ := low_some e
    have n : lowH X.env.locals γ.H b = none := n
    rw [lowH_lt lt] at n
    rw [join_none (pv.no lt)]
    exact n
  · obtain ⟨lt, e⟩ := lowH_some e
    rw [join_none (pv.no lt)]
    exact e
  · obtain ⟨lt, e⟩ := lowH_some e
    rw [join_none (pv.no lt)]
    exact e
  · obtain ⟨lt, e⟩ := lowH_some e
    exact ⟨#[], by rw [join_none (pv.no lt), e]; simp⟩
  · have e : X.env.cells.lookup x = some c := e
    rw [own.cells x] at e; cases e
  · show join Pv γ.H X.env.locals = none
    rw [join_none f.free]
    exact m.non _ (.inl rfl)
  · have e : X.env.cells.lookup x = some c := e
    rw [own.cells x] at e; cases e
  · rw [show (atG X γ).pn = [] from own.pn, List.nil_append] at hp
    exact pin p hp
  · cases q : Pv b with
    | some u =>
      rw [join_some q] at e
      cases e
      obtain ⟨_, xs, rfl, ok⟩ := f.pv b _ q
      exact ok
    | none =>
      rw [join_none q] at e
      refine (m.hok b o e).stay (fun _ _ _ z => z) (fun c z => ?_) fun c xs z => ?_
      · rw [join_none (pv.out z)]; exact z
      · rw [join_none (pv.out z)]; exact z
/-! ### back with the consumer -/
theorem thereOf {P : Program} {w : World} {H : Hp} {h : Heap} {a : Addr} {o : HO} (x : ObjOk P w H h a o) : ∃ u, h.get? a = some u := by
  cases o with
  | lst xs => obtain ⟨_, _, _, _, e⟩ := x; exact ⟨_, e⟩
  | tup xs => obtain ⟨_, _, _, u, e, _⟩ := x; exact ⟨_, e⟩
  | dK kvs => obtain ⟨_, _, _, _, u, _, _, e, _⟩ := x; exact ⟨_, e⟩
  | dT kvs => obtain ⟨_, _, _, _, u, _, _, e, _⟩ := x; exact ⟨_, e⟩
  | set S n => obtain ⟨u, _, _, _, e, _⟩ := x; exact ⟨_, e⟩
  | ins C dx fs => obtain ⟨_, _, _, e, _⟩ := x; exact ⟨_, e⟩
  | own y => exact x
  | xd fs => obtain ⟨_, ⟨u, _, _, e, _⟩, _⟩ := x; exact ⟨_, e⟩
  | rng lo hi => obtain ⟨_, _, _, e⟩ := x; exact ⟨_, e⟩
  | frz ob u => exact ⟨_, x.1⟩
  | tbl ps => exact ⟨_, (show h.get? a = some _ from x)⟩
  | met f y => exact ⟨_, (show h.get? a = some _ from x)⟩
  | ext φ => exact x.2.1
theorem back {Xc X : Cx} {F : List Addr} {γ : Gh} {op pins : List (Addr × Obj)} {σ σc : L2.St} {Pv H H' : Hp} {sk s1 : Shared} (I : Inv Xc pins σc H sk) (e1 : γ.s.heap = sk.heap) (e2 : γ.s.os = sk.os) (e3 : γ.H = H) (hp : X.prog = Xc.prog) (hw : X.w = Xc.w) (ho : X.outer = Xc.stack)
    (w : WInv X F γ op σ (join Pv H') s1) (pv : PvOk X.env.locals Pv H') (tm : Tame H H')
    (yo : ∀ b, X.env.locals ≤ b → b < sk.heap.objs.size → b ∉ F → H b = none → (b ∈ Xc.ex ∨ Xc.s_0.heap.objs.size ≤ b) ∧ b ≠ Xc.env.locals ∧ (∀ x c, Xc.env.cells.lookup x = some c → c ≠ b) ∧ ∀ p ∈ Xc.pn ++ pins, p.1 ≠ b) :
    Inv Xc pins σc H' s1 := by
  subst e3
  have J := w.inv
  have hex : (atG X γ).ex = [] := w.own.ex
  have lowk : ∀ {b o}, b < X.env.locals → sk.heap.get? b = some o → (atG X γ).s_0.heap.get? b = some o := fun lt e => low_of lt (by rw [e1]; exact e)
  have lowh : ∀ {b}, b < X.env.locals → γ.H b = none → (atG X γ).H_0 b = none := fun lt n => by
    show lowH X.env.locals γ.H _ = none
    rw [lowH_lt lt]; exact n
  have nex : ∀ b, b ∉ (atG X γ).ex := fun b z => by rw [hex] at z; cases z
  have fpin : ∀ {b o}, b ∈ F → sk.heap.get? b = some o → s1.heap.get? b = some o ∧ H' b = none := fun {b o} hb e => by
    obtain ⟨q1, q2, _⟩ := J.pin (b, o) (List.mem_append_right _ (List.mem_append_right _ (mem_pinsAt hb (by rw [e1]; exact e))))
    exact ⟨q1, (join_non q2).2⟩
  have hok : HOk Xc.prog Xc.w H' s1.heap := fun b o e => by
    have q := J.hok b o (by rw [join_none (pv.out e)]; exact e)
    have q : ObjOk Xc.prog Xc.w (join Pv H') s1.heap b o := by rw [← hp, ← hw]; exact q
    have nl : ∀ c u, join Pv H' c = some u → (∀ xs, u ≠ .lst xs) → H' c = some u := fun c u z nz => by
      cases y : Pv c with
      | some o' =>
        rw [join_some y] at z
        cases z
        obtain ⟨_, _, xs, ex⟩ := pv.own c _ y
        exact absurd ex (nz xs)
      | none => rw [join_none y] at z; exact z
    exact q.stay (fun _ _ _ z => z) (fun c z => nl c _ z fun _ y => by cases y) fun c xs z => nl c _ z fun _ y => by cases y
  have far : ∀ {b}, b ∉ (List.range sk.heap.objs.size).filter (fun b => decide (X.env.locals ≤ b ∧ b ∉ F ∧ γ.H b = none)) → b < sk.heap.objs.size → b < X.env.locals ∨ b ∈ F ∨ γ.H b ≠ none := fun {b} hb lt => by
    by_cases c1 : b < X.env.locals
    · exact .inl c1
    by_cases c2 : b ∈ F
    · exact .inr (.inl c2)
    by_cases c3 : γ.H b = none
    · exact absurd (List.mem_filter.mpr ⟨List.mem_range.mpr lt, decide_eq_true ⟨Nat.le_of_not_lt c1, c2, c3⟩⟩) hb
    · exact .inr (.inr c3)
  refine I.call' (ch := (List.range sk.heap.objs.size).filter fun b => decide (X.env.locals ≤ b ∧ b ∉ F ∧ γ.H b = none)) (J.os.trans e2) ⟨fun b o e n hb hx => ?_, fun b o e n hb hx => ?_, fun b o e n hx => ?_, fun b o e hx => ?_, tm.tups, tm.frzs, tm.tbls⟩ hok J.bare fun b hb => ?_
  · rcases far hx (Heap.lt_size e) with z | z | z
    · exact J.base.keep b o (lowk z e) (lowh z n) (by show b ∉ frs X.outer; rw [ho]; exact hb) (nex b)
    · exact (fpin z e).1
    · exact absurd n z
  · rcases far hx (Heap.lt_size e) with z | z | z
    · exact J.base.slot b o (lowk z e) (lowh z n) (by show b ∈ frs X.outer; rw [ho]; exact hb) (nex b)
    · exact ⟨o.slots, (fpin z e).1⟩
    · exact absurd n z
  · rcases far hx (Heap.lt_size e) with z | z | z
    · exact (join_non (J.base.free b o (lowk z e) (lowh z n) (nex b))).2
    · exact (fpin z e).2
    · exact absurd n z
  · rcases far hx (Heap.lt_size e) with z | z | z
    · exact J.base.there b o (lowk z e) (nex b)
    · exact ⟨o, (fpin z e).1⟩
    · cases q : H' b with
      | none => exact absurd q (tm.has b z)
      | some u =>
        exact thereOf (hok b u q)
  · obtain ⟨h1, h2⟩ := List.mem_filter.mp hb
    have h2 := of_decide_eq_true h2
    exact yo b h2.1 (List.mem_range.mp h1) h2.2.1 h2.2.2
/-! ### the next item -/
def Wakes1 (M : Model) (A : Around) (Φ : End → Shared → Prop) (s : Shared) : GenState → Prop
  | .fresh c => Run1 M A Φ c (M.den c) [] s
  | .suspended k _ c _ fs _ => Run1 M A Φ c (k (.send .none)) fs s
  | _ => False
theorem wpAny_wake {M : Model} {A : Around} {E : Value → Shared → Prop} {s : Shared} {g : Nat} {gs : GenState} {l : List Value} {α : Type} {k : GenResult → Sem α} {Q : α → Shared → Prop} {Φ : End → Shared → Prop} (hg : s.gens[g]? = some gs)
    (hgo : Wakes1 M A Φ (s.setGen g .running) gs) (hq : ∀ e s1, Φ e s1 → e.quiet = true) (h : ∀ e s1, s.gens.size ≤ s1.gens.size → Φ e s1 → wpAny M A (k e.result) Q E (s1.setGen g e.genState)) : wpAny M A (.resume g (.send .none) l k) Q E s := by
  intro Γ p hΓ
  rw [Sem.wp_resume]
  cases gs with
  | fresh c =>
    obtain ⟨e, s1, r, z⟩ := hgo (Γ.wake c p) p rfl (hΓ.wake c p)
    exact ⟨_, _, by unfold Wakes; rw [hg]; exact ⟨e, s1, r, hq e s1 z, rfl, rfl⟩, h e s1 (by have := runs_gsz r; rw [setGen_size] at this; exact this) z Γ p hΓ⟩
  | suspended k0 l0 c0 p0 fs0 cl =>
    obtain ⟨e, s1, r, z⟩ := hgo (Γ.wake c0 p) p0 rfl (hΓ.wake c0 p)
    exact ⟨_, _, by unfold Wakes; rw [hg]; exact ⟨e, s1, r, hq e s1 z, rfl, rfl⟩, h e s1 (by have := runs_gsz r; rw [setGen_size] at this; exact this) z Γ p hΓ⟩
  | running => exact hgo.elim
  | finished => exact hgo.elim
theorem wpAny_nextG {prog : Program} {w : World} {A : Around} {E : Value → Shared → Prop} {s : Shared} {a : Addr} {g : Nat} {gs : GenState} {Φ : End → Shared → Prop} {Q : Option Value → Shared → Prop} (hh : A.handled = none) (hl : s.heap.NoLimit) (hroom : A.depth < recursionLimit)
    (hg : s.heap.IsGen a g) (hgs : s.gens[g]? = some gs) (hgo : Wakes1 (model prog w) A.in1 Φ (s.setGen g .running) gs) (hq : ∀ e s1, Φ e s1 → e.quiet = true)
    (hY : ∀ v gd l k c p fs s1, s.gens.size ≤ s1.gens.size → Φ (.susp v gd l k c p fs) s1 → Q (some v) (s1.setGen g (End.susp v gd l k c p fs).genState))
    (hR : ∀ r s1, Φ (.ret r) s1 → r = .ok (.ret .none) ∧ ∀ h', (∀ b o, s1.heap.get? b = some o → h'.get? b = some o) → Q none { s1.setGen g .finished with heap := h' }) :
    wpAny (model prog w) A (pyNext (.ref a)) Q E s := by
  unfold pyNext
  refine wpAny_bind (wpAny_attempt (wpAny_callSpecial?_slot (name := Str.ofString "__next__") hg.typeIs slot_gen_next (wpAny_call_entry slot_gen_next hg.typeIs entry_gen_next ?_ (args_gen_next _))))
  show wpAny _ A.in1 (Builtin.Generator.genWake (.ref a) (.send .none)) _ _ s
  unfold Builtin.Generator.genWake
  refine wpAny_bind (wpAny_holding (wpAny_genNumber hg (wpAny_bind (wpAny_genState hgs ?_))))
  cases gs with
  | running => exact hgo.elim
  | finished => exact hgo.elim
  | _ =>
    refine wpAny_bind (wpAny_roomToWake hl hroom ?_)
    show wpAny _ A.in1 (.resume g (.send .none) [] _) _ _ s
    refine wpAny_wake hgs hgo hq fun e s1 zs z => ?_
    cases e with
    | ret r =>
      obtain ⟨er, qn⟩ := hR r s1 z
      subst er
      show wpAny _ A.in1 (newExc (.type "StopIteration") [] >>= _) _ _ _
      refine wpAny_bind ?_
      simp only [newExc, newTuple]
      refine wpAny_bind (wpAny_newObj_type ?_ (by size_fits))
      refine wpAny_bind (m := firstArgMember _ _) (wpAny_of_eq (a := Value.none) (by first | rfl | (simp only [firstArgMember]; rfl)) ?_)
      refine wpAny_newObj_type ?_ (by size_fits)
      simp only [raiseNew]
      refine wpAny_bind (wpAny_bind (wpAny_handled ?_))
      first | rw [show A.in1.handled = none from hh] | rw [hh]
      refine wpAny_throw ?_
      refine wpAny_bind (wpAny_isInstance (T := "StopIteration") (b := true) ⟨_, Heap.get?_push_size _ rfl, rfl⟩ isSubtype_stop ?_)
      exact wpAny_pure (qn _ fun b o hb => Heap.get?_push_of_some _ (Heap.get?_push_of_some _ hb))
    | susp v gd l k c p fs => exact wpAny_pure ⟨v, rfl, wpAny_pure (hY v gd l k c p fs s1 zs z)⟩
/-! ### it sleeps, as its consumer sees it -/
structure Asl (X : Cx) (A : Around) (F : List Addr) (J : It2) (B : Nat) (a : Addr) (g i : Nat) (op : List (Addr × Obj)) (σ : L2.St) (Pv : Hp) (s : Shared) : Prop where
  gen : s.heap.IsGen a g
  le : i ≤ B
  st : ∃ gs, s.gens[g]? = some gs ∧ Stage X A F J (B - i) i op σ Pv gs
  own : OwnF X op σ Pv s.heap
/-- what binds the two contexts -/
structure Pair (Xc X : Cx) (a : Addr) (F : List Addr) : Prop where
  held : Held X
  prog : X.prog = Xc.prog
  w : X.w = Xc.w
  base : X.base = Xc.base
  outer : X.outer = Xc.stack
  self : a ∈ F
  fs : ∀ b ∈ frs Xc.stack, b < X.env.locals
theorem next_ok {Xc X : Cx} {F : List Addr} {J : It2} {B : Nat} {a : Addr} {g i : Nat} {op pins : List (Addr × Obj)} {σ σc : L2.St} {Pv H : Hp} {s : Shared} {Q : Option Value → Shared → Prop} {E : Value → Shared → Prop} (pr : Pair Xc X a F) (hc : Xc.calm = true) (hroom : Xc.A.depth < recursionLimit)
    (I : Inv Xc pins σc H s) (as : Asl X Xc.A.in1 F J B a g i op σ Pv s) (ok : J.ok i H)
    (non : ∀ b, mine X op Pv b → H b = none) (out : ∀ b ∈ F, (∃ o, s.heap.get? b = some o ∧ ∀ v, o.data ≠ .cell v) ∧ H b = none ∧ b ∉ frs Xc.stack ∧ ¬ mine X op Pv b)
    (yo : ∀ b, X.env.locals ≤ b → b < s.heap.objs.size → b ∉ F → H b = none → (b ∈ Xc.ex ∨ Xc.s_0.heap.objs.size ≤ b) ∧ b ≠ Xc.env.locals ∧ (∀ x c, Xc.env.cells.lookup x = some c → c ≠ b) ∧ ∀ p ∈ Xc.pn ++ pins, p.1 ≠ b)
    (hY : ∀ x v H' op' σ' Pv' s1, Inv Xc pins σc H' s1 → RelV x v → J.yld i H x H' → Asl X Xc.A.in1 F J B a g (i + 1) op' σ' Pv' s1 → (∀ b, mine X op' Pv' b → H' b = none ∧ X.env.locals ≤ b ∧ b ∉ F) → (∀ b ∈ F, ∀ o, s.heap.get? b = some o → s1.heap.get? b = some o ∧ H' b = none) → Tame H H' → Sleeps s1.gens g → Q (some v) s1)
    (hR : ∀ H' s1, Inv Xc pins σc H' s1 → J.fin i H H' → (∀ b ∈ F, ∀ o, s.heap.get? b = some o → s1.heap.get? b = some o ∧ H' b = none) → Q none s1) :
    wpAny (model Xc.prog Xc.w) Xc.A (pyNext (.ref a)) Q E s := by
  obtain ⟨gs, hgs, stg⟩ := as.st
  have sz : X.env.locals ≤ s.heap.objs.size := by
    obtain ⟨m, hn, _⟩ := as.own.loc
    exact Nat.le_of_lt hn.lt
  have gs0 : g < s.gens.size := (Array.getElem?_eq_some_iff.mp hgs).1
  have Mt : Meet X F op Pv H (s.setGen g .running) := ⟨sz, allBare_setGen I.bare rfl, by rw [pr.prog, pr.w]; exact I.hok, fun b o e => I.bs b o (by rw [← pr.base]; exact e), by rw [pr.base, pr.outer]; exact I.stack,
    fun b hb => ⟨pr.fs b (by rw [← pr.outer]; exact hb), I.stkFree b (by rw [← pr.outer]; exact hb)⟩,
    fun b hb => by
      obtain ⟨h1, h2, h3, h4⟩ := out b hb
      refine ⟨h1, h2, fun z => h4 (.inl z), by show b ∉ frs X.outer; rw [pr.outer]; exact h3, ?_, fun p hp z => h4 (.inr (.inl ⟨p, hp, z⟩))⟩
      cases q : Pv b with
      | none => rfl
      | some o => exact absurd (.inr (.inr (by rw [q]; rfl))) h4, non⟩
  have wk := woken (γ := ⟨i, s.setGen g .running, H⟩) pr.held as.own Mt
  have run : Wakes1 (model Xc.prog Xc.w) Xc.A.in1 (GPost X Xc.A.in1 F J (B - i) ⟨i, s.setGen g .running, H⟩) (s.setGen g .running) gs := by
    have r := stg ⟨i, s.setGen g .running, H⟩ rfl wk.1 wk.2 ok
    rw [pr.prog, pr.w] at r
    cases gs with
    | fresh c => exact r
    | suspended k l c p fs cl => exact r
    | running => exact r
    | finished => exact r
  have fkeep : ∀ {op1 : List (Addr × Obj)} {σ1 : L2.St} {Pv1 H1 : Hp} {s1 : Shared}, WInv X F ⟨i, s.setGen g .running, H⟩ op1 σ1 (join Pv1 H1) s1 → ∀ b ∈ F, ∀ o, s.heap.get? b = some o → s1.heap.get? b = some o ∧ H1 b = none := fun w b hb o e => by
    obtain ⟨q1, q2, _⟩ := w.inv.pin (b, o) (List.mem_append_right _ (List.mem_append_right _ (mem_pinsAt hb e)))
    exact ⟨q1, (join_non q2).2⟩
  refine wpAny_nextG (I.ok.hd hc) I.nolimit hroom as.gen hgs run (fun e s1 z => ?_) (fun v gd l k c p fs s1 zs z => ?_) fun r s1 z => ?_
  · cases e with
    | ret r => rfl
    | susp v gd l k c p fs =>
      cases hn : B - i with
      | zero => rw [hn] at z; exact z.elim
      | succ n => rw [hn] at z; exact z.1
  · cases hn : B - i with
    | zero => rw [hn] at z; exact z.elim
    | succ n =>
      rw [hn] at z
      obtain ⟨hq, x, op1, σ1, Pv1, H1, rv, w, pv, tm, y, nxt⟩ := z
      have I1 : Inv Xc pins σc H1 s1 := back I rfl rfl rfl pr.prog pr.w pr.outer w pv tm yo
      have I2 : Inv Xc pins σc H1 (s1.setGen g (End.susp v gd l k c p fs).genState) := I1.call' (ch := []) rfl Un.refl I1.hok (allBare_setGen I1.bare (End.bare_of_quiet hq)) fun b hb => by cases hb
      have fk := fkeep w
      obtain ⟨oa, ea⟩ : ∃ o, s.heap.get? a = some o := (out a pr.self).1.imp fun _ z => z.1
      have hga : s1.heap.IsGen a g := by
        obtain ⟨o, nm, qn, e, r⟩ := as.gen
        exact ⟨o, nm, qn, (fk a pr.self o e).1, r⟩
      have gsz : g < s1.gens.size := Nat.lt_of_lt_of_le gs0 zs
      refine hY x v H1 op1 σ1 Pv1 _ I2 rv y ⟨hga, by omega, ⟨_, setGen_at gsz, ?_⟩, w.ownF pv⟩ (fun b hb => ?_) fk tm ⟨_, _, _, _, _, _, setGen_at gsz⟩
      · have e : B - (i + 1) = n := by omega
        rw [e]
        intro γ' hi' w' pv' ok'
        exact nxt γ' hi' w' pv' ok'
      · have o1 := w.ownF pv
        rcases hb with z | ⟨p, hp, z⟩ | z
        · subst z
          refine ⟨(join_non w.inv.free).2, Nat.le_refl _, fun hF => ?_⟩
          obtain ⟨⟨o, e, _⟩, _⟩ := out _ hF
          exact (w.inv.pin (_, o) (List.mem_append_right _ (List.mem_append_right _ (mem_pinsAt hF e)))).2.2.1 rfl
        · subst z
          obtain ⟨_, n2, _⟩ := w.inv.pin p (List.mem_append_right _ (List.mem_append_left _ hp))
          exact ⟨(join_non n2).2, w.old p hp, w.apart p hp⟩
        · cases q : Pv1 b with
          | none => rw [q] at z; cases z
          | some o =>
            obtain ⟨h1, h2, xs, h3⟩ := pv.own b o q
            refine ⟨h2, h1, fun hF => ?_⟩
            obtain ⟨⟨oo, e, _⟩, _⟩ := out _ hF
            have n2 := (w.inv.pin (b, oo) (List.mem_append_right _ (List.mem_append_right _ (mem_pinsAt hF e)))).2.1
            rw [join_some q] at n2
            cases n2
  · obtain ⟨hr, op1, σ1, Pv1, H1, w, pv, tm, fn⟩ := (show r = .ok (.ret .none) ∧ _ by
      cases hn : B - i with
      | zero => rw [hn] at z; exact z
      | succ n => rw [hn] at z; exact z)
    refine ⟨hr, fun h' hk => ?_⟩
    have I1 : Inv Xc pins σc H1 s1 := back I rfl rfl rfl pr.prog pr.w pr.outer w pv tm yo
    have I2 : Inv Xc pins σc H1 { s1.setGen g .finished with heap := h' } := I1.call' (ch := []) rfl (Un.kept hk) (I1.hok.kept hk) (allBare_setGen I1.bare rfl) fun b hb => by cases hb
    refine hR H1 _ I2 fn fun b hb o e => ?_
    obtain ⟨q1, q2⟩ := fkeep w b hb o e
    exact ⟨hk b o q1, q2⟩
end Wk
end
section
open PySem PySem.Spec PyProof.Rows L2 GenW
namespace Wk
/-! ### a generator def, by its body -/
abbrev SpW := List V → Hp → It2 → Nat → Prop
def wcx (P : Program) (w : World) (K : PySem.W.Frag) (mg : Str → Option Value) (base : Heap) (N : List Str) (qual : Str) (scope : Scope) (f : Addr) (cd : Value) (A : Around) (outer : List Env) (s : Shared) (H : Hp) : Cx :=
  { cxOf (fun _ _ _ _ _ _ => False) P w K mg base N qual scope f cd A outer s H (fun _ _ _ => False) with xe := fun _ _ => False }
/-- a call of it gives a generator that has not begun -/
def BornW (P : Program) (w : World) (base : Heap) (k : Nat) (outer : List Env) (s : Shared) (J : It2) (B : Nat) (u : Value) (s' : Shared) : Prop :=
  ∃ (a : Addr) (g : Nat) (c : Code) (σ : L2.St), u = .ref a ∧ s'.heap.IsGen a g ∧ s'.gens[g]? = some (.fresh c) ∧ s.heap.objs.size < a ∧ s'.os = s.os ∧ AllBare s'.gens ∧ (∀ b o, s.heap.get? b = some o → s'.heap.get? b = some o) ∧
    ∀ A : Around, Room k A → A.frames = some outer → ∃ X : Cx, X.prog = P ∧ X.w = w ∧ X.base = base ∧ X.outer = outer ∧ X.env.locals = s.heap.objs.size ∧ Held X ∧ OwnF X [] σ (fun _ => none) s'.heap ∧ ∀ F, Stage X A F J B 0 [] σ (fun _ => none) (.fresh c)
structure GFnW (P : Program) (w : World) (K : PySem.W.Frag) (mg : Str → Option Value) (base : Heap) (k : Nat) (f : Addr) (fd : FuncData) (ps : List Str) (sp : SpW) : Prop where
  len : ∀ vs H J B, sp vs H J B → vs.length = ps.length
  run : ∀ (A : Around) (outer : List Env) (s : Shared) (H : Hp) (args : Args) (us : List Value) (vs : List V) (J : It2) (B : Nat), Room k A → Env0 P w K mg base A outer s H → BindsTo s fd args (ps.zip us) → Vals vs us → sp vs H J B →
    codeAny (model P w) A (.call (.ref f) args) (fun r s' => match r with
      | .ok (.ret u) => BornW P w base k outer s J B u s'
      | _ => False) s
/-- what its body is to reach -/
def WDone (L : Nat) (J : It2) : WEnds where
  nx := fun γ _ Hg => ∃ Pv H', Hg = join Pv H' ∧ PvOk L Pv H' ∧ Tame γ.H H' ∧ J.fin γ.i γ.H H'
  rt := fun γ v Hg => v = .non ∧ ∃ Pv H', Hg = join Pv H' ∧ PvOk L Pv H' ∧ Tame γ.H H' ∧ J.fin γ.i γ.H H'
theorem join_bot {H : Hp} : join (fun _ => none) H = H := rfl
theorem gfnw_of {P : Program} {w : World} {K : PySem.W.Frag} {mg : Str → Option Value} {base : Heap} {k : Nat} {f : Addr} {name qual : Str} {params : Arguments} {body : List Stmt} {scope : Scope} {dV kV doc pm cdv ct oc : Value} {an od : Option Addr} {osl : Array (Option Value)} {N ps : List Str} {sp : SpW}
    (lk : K.lookup f = some ⟨oc, od, .func (PySem.W.fnOf name qual params body scope dV kV doc pm an cdv ct), osl⟩) (hcd : PySem.W.codeIn K cdv qual = true) (S : GScope N ps scope) (hnc : ∀ n, cellsFrom n scope.names [] = []) (len : ∀ vs H J B, sp vs H J B → vs.length = ps.length)
    (hbody : ∀ (A : Around) (outer : List Env) (s : Shared) (H : Hp) (vs : List V) (J : It2) (B : Nat), Room k (A.deeper (envOfC qual scope s.heap.objs.size f cdv)) → sp vs H J B →
      ∃ t, WSs (wcx P w K mg base N qual scope f cdv A outer s H) J B body t ∧ ∀ γ : Gh, γ.i = 0 → J.ok 0 γ.H → t (WDone s.heap.objs.size J) γ (start N vs) γ.H) :
    GFnW P w K mg base (k + 1) f (PySem.W.fnOf name qual params body scope dV kV doc pm an cdv ct) ps sp := by
  refine ⟨len, fun A outer s H args us vs J B hr e0 hb r hsp => ?_⟩
  have hl := len _ _ _ _ hsp
  have kx : K.In s.heap := e0.mod.kin.keeps fun b o e => (e0.bs b o e).1
  have lim : s.heap.NoLimit := e0.mod.nolimit.keeps fun b o e => (e0.bs b o e).1
  have hkind : ∀ y ∈ ps.zip us, scope.names.lookup y.1 = some .local ∨ (scope.names.lookup y.1 = some .cell ∧ ((cellsFrom (s.heap.objs.size + 1) scope.names []).lookup y.1).isSome = true) := fun ⟨n, v⟩ hy => by
    rcases S.par n (List.of_mem_zip hy).1 with q | q
    · exact .inl q
    · exact .inr ⟨q, PySem.W.cellsFrom_some _ _ _ (.inl q)⟩
  refine codeAny_call_generator hr.depth (kx _ _ lk) rfl S.co S.gen rfl (PySem.W.codeRec_of kx hcd) (hb _ _ _ _ ?_)
  refine wpAny_newFunctionEnv_cells S.kind hkind fun env he s1 x => ?_
  subst he
  refine ⟨lim.keeps x.toInCall.keep, ?_⟩
  obtain ⟨h1, tk, es1, hk1⟩ := x.done
  have os1 : s1.os = s.os := by rw [es1]
  have gen1 : s1.gens = s.gens := by rw [es1]
  have lt1 : s.heap.objs.size < s1.heap.objs.size := x.toInCall.ns.lt
  have kp1 : ∀ b o, s.heap.get? b = some o → s1.heap.get? b = some o := x.toInCall.keep
  have main : ∀ (go : Obj) (nm qn : Value) (tk2 : Nat), go.cls = .type "generator" → go.data = .fields #[.int s1.gens.size 0, nm, qn] → go.slots = #[] → (∀ h : Heap, (h.push go).get? h.objs.size = some go) →
      BornW P w base (k + 1) outer s J B (.ref s1.heap.objs.size) { s1 with gens := s1.gens.push (.fresh (.func body (envOfC qual scope s.heap.objs.size f cdv))), toks := tk2, heap := s1.heap.push go } := by
    intro go nm qn tk2 hgc hgd hgs hgp
    refine ⟨_, s1.gens.size, _, start N vs, rfl, ⟨go, nm, qn, hgp _, hgc, hgd, hgs⟩, Array.getElem?_push_size .., lt1, os1, AllBare.push (by rw [gen1]; exact e0.bare) rfl, fun b o e => Heap.get?_push_of_some _ (kp1 b o e), fun Aw hrw hfr => ?_⟩
    have e0w : Env0 P w K mg base Aw outer s H := ⟨hfr, e0.mod, e0.bs, e0.bsz, e0.funs, e0.frf, e0.hok, e0.bare⟩
    obtain ⟨t, ht, hq⟩ := hbody Aw outer s H vs J B (hrw.deeper _) hsp
    have I1 : Inv (gcxOf P w K mg base N qual scope f cdv Aw outer s H (fun _ _ _ => False) []) [] (start N vs) H s1 := inv_startG S hrw.hd e0w hl r x
    have own : Own0 (wcx P w K mg base N qual scope f cdv Aw outer s H) := ⟨rfl, rfl, rfl, fun y => by
      show (cellsFrom (s.heap.objs.size + 1) scope.names []).lookup y = none
      rw [hnc]; rfl⟩
    have eL : low s.heap.objs.size s.heap = s.heap := by
      unfold low
      rw [Array.extract_size]
    have eH : lowH s.heap.objs.size H = H := by
      funext b
      unfold lowH
      by_cases hb : b < s.heap.objs.size
      · rw [if_pos hb]
      · rw [if_neg hb, e0.hok.fresh (Nat.le_of_not_lt hb)]
    have J1 := I1.ok
    refine ⟨wcx P w K mg base N qual scope f cdv Aw outer s H, rfl, rfl, rfl, rfl, rfl, ⟨own, ⟨0, s, H⟩, Nat.le_refl _, ?_⟩, ⟨?_, (fun p hp => by cases hp), (fun b o e => by cases e), rfl, I1.len⟩, fun F γ hi wi pv ok => ?_⟩
    · have e1 : (atG (wcx P w K mg base N qual scope f cdv Aw outer s H) ⟨0, s, H⟩).s_0 = s := by
        show ({ s with heap := low s.heap.objs.size s.heap } : Shared) = s
        rw [eL]
      have e2 : (atG (wcx P w K mg base N qual scope f cdv Aw outer s H) ⟨0, s, H⟩).H_0 = H := eH
      exact ⟨J1.mod, J1.kind, J1.glob, J1.blt, by rw [e1]; exact J1.above, J1.inj, J1.has, fun y c h1 h2 => by rw [e1]; exact J1.cab y c h1 h2, J1.hd, J1.frames, J1.stk, J1.exf, fun b o e => by rw [e1, e2]; exact J1.bs b o e, by rw [e1]; exact J1.bsz, J1.noex, J1.exfs, by rw [e1]; exact J1.funs, fun b hb => by rw [e2]; exact J1.frf b hb⟩
    · obtain ⟨m, hn, hl⟩ := I1.loc
      refine ⟨m, hn.push _, fun i y v q1 q2 q3 => ?_⟩
      obtain ⟨u, ru, lu⟩ := hl i y v q1 q2 q3
      refine ⟨u, ru, ?_⟩
      rcases lu with z | ⟨z, c, e, _⟩
      · exact .inl z
      · have e : (cellsFrom (s.heap.objs.size + 1) scope.names []).lookup y = some c := e
        rw [hnc] at e; cases e
    · refine r1_func ?_
      have over : Aw.over (.func body (envOfC qual scope s.heap.objs.size f cdv)) [] = (wcx P w K mg base N qual scope f cdv Aw outer s H).A := over_func
      have ending : ∀ (n : Nat) (γ : Gh) (u : Value) (s' : Shared) (σ' : L2.St) (Hg : Hp), u = .none → WInv (wcx P w K mg base N qual scope f cdv Aw outer s H) F γ [] σ' Hg s' → (∃ Pv H', Hg = join Pv H' ∧ PvOk s.heap.objs.size Pv H' ∧ Tame γ.H H' ∧ J.fin γ.i γ.H H') →
          Run1 (model P w) Aw (GPost (wcx P w K mg base N qual scope f cdv Aw outer s H) Aw F J n γ) (.func body (envOfC qual scope s.heap.objs.size f cdv)) (.pure (.done (.ret u))) [] s' := fun n γ u s' σ' Hg hu wi' q => by
        subst hu
        obtain ⟨Pv, H', rfl, q1, q2, q3⟩ := q
        refine r1_end (.ok (.ret .none)) ?_
        cases n with
        | zero => exact ⟨rfl, [], σ', Pv, H', wi', q1, q2, q3⟩
        | succ n => exact ⟨rfl, [], σ', Pv, H', wi', q1, q2, q3⟩
      refine ht.run Aw F B [] γ _ [] _ _ id id γ.s (start N vs) γ.H (WDone s.heap.objs.size J) ⟨over, rfl, rfl, rfl⟩ (by omega) (fun n γ' s' fl hn hs => ?_) wi (hq γ hi (hi ▸ ok))
      cases fl with
      | next =>
        obtain ⟨σ', Hg, w', q⟩ := hs
        exact ending n γ' .none s' σ' Hg rfl w' q
      | brk => obtain ⟨_, _, _, q⟩ := hs; exact False.elim q
      | cont => obtain ⟨_, _, _, q⟩ := hs; exact False.elim q
      | ret u =>
        obtain ⟨v, σ', Hg, w', rv, ev, q⟩ := hs
        subst ev
        exact ending n γ' u s' σ' Hg rv w' q
  exact main _ _ _ _ rfl rfl rfl fun h => Heap.get?_push_size _ rfl
/-! ### an expression whose value is a generator that is to be walked -/
abbrev TI2 := L2.St → Hp → (It2 → Nat → Hp → Prop) → Prop
structure PI2 (X : Cx) (k : Nat) (e : Expr) (t : TI2) : Prop where
  run : ∀ (pins : List (Addr × Obj)) (s : Shared) (σ : L2.St) (H : Hp) (R : It2 → Nat → Hp → Prop), Inv X pins σ H s → t σ H R → wpAny (model X.prog X.w) X.A (eval e X.env)
    (fun u s' => ∃ H1 sc J B, Inv X pins σ H1 sc ∧ R J B H1 ∧ BornW X.prog X.w X.base k X.stack sc J B u s') X.xe s
section
variable {X : Cx} {k : Nat} {f C : Addr} {fd : FuncData} {ps : List Str} {sp : SpW} {dvs : List V} {ds : List Value} {x m : Str} {p pos pos' apos : Pos} {o : Expr} {ta : TE}
theorem run_gfnw {pins : List (Addr × Obj)} {σ : L2.St} {H : Hp} {s : Shared} {us : List Value} {vs : List V} {R : It2 → Nat → Hp → Prop} {J : It2} {B : Nat} {E1 : Value → Shared → Prop} (F : GFnW X.prog X.w X.K X.mg X.base k f fd ps sp) (hr : Room k X.A) (hb : Binds X.K fd ps ds) (hd : Vals dvs ds)
    (I : Inv X pins σ H s) (r : Vals vs us) (h : sp (vs ++ dvs) H J B) (q : R J B H) :
    wpAny (model X.prog X.w) X.A (call (.ref f) us) (fun u s' => ∃ H1 sc J B, Inv X pins σ H1 sc ∧ R J B H1 ∧ BornW X.prog X.w X.base k X.stack sc J B u s') E1 s := by
  have r2 : Vals (vs ++ dvs) (us ++ ds) := r.append hd
  have hl2 : (us ++ ds).length = ps.length := by rw [← r2.length]; exact F.len _ _ _ _ h
  refine wpAny_call (codeAny_mono (F.run X.A X.stack s H ⟨us, []⟩ (us ++ ds) (vs ++ dvs) J B hr I.env0 (hb s us I.kIn hl2) r2 h) fun r s' hq => ?_)
  cases r with
  | error e => exact False.elim hq
  | ok fl =>
    cases fl with
    | ret u => exact ⟨H, s, J, B, I, q, hq⟩
    | next => exact False.elim hq
    | brk => exact False.elim hq
    | cont => exact False.elim hq
/-- o.m() -/
def tMethW (C : Addr) (m : Str) (sp : SpW) (dvs : List V) (ta : TE) (t : TA) : TI2 := fun σ H R => ta σ H fun x H1 => ∃ a dx fs, x = .ref a ∧ H1 a = some (.ins C dx fs) ∧ fs.lookup m = none ∧ t σ H1 fun vs H2 => ∃ J B, sp (x :: (vs ++ dvs)) H2 J B ∧ R J B H2
theorem pi2_meth0 {pl : Sem Bool} (he : PE X o ta) (c : Cls X.K C) (hm : Meth X.K C m f) (F : GFnW X.prog X.w X.K X.mg X.base k f fd ps sp) (hr : Room k X.A) (hb : Binds X.K fd ps ds) (hd : Vals dvs ds)
    (ht : eval (.Call (.Attribute o m apos) [] [] pos') X.env = (do
      let ov ← eval o X.env
      standAt apos.atName
      let (f, first) ← holding [ov] (getMethod ov m pl)
      callWith pos' f first (backTo pos' (starEach [] X.env)) (backToKw pos' (keywordEach [] X.env))) := by rfl) :
    PI2 X k (.Call (.Attribute o m apos) [] [] pos') (tMethW C m sp dvs ta tNil) := by
  refine ⟨fun pins s σ H R I h => ?_⟩
  refine PySem.W.methodCall_KW (pl := pl) (thn (he.run pins s σ H _ I h) fun u s1 h1 => ?_) ht
  obtain ⟨x, H1, I1, rx, a, dx, fs, ex, ea, l, J, B, q, q2⟩ := h1
  subst ex
  obtain rfl : u = Value.ref a := rx
  refine getmeth_ok I1 ea c hm l ?_
  exact PySem.W.callWith_K0 (first := [.ref a]) I1.kIn hm.kp (run_gfnw (us := [.ref a]) (vs := [.ref a]) F hr hb hd I1 (.cons rfl .nil) q q2)
/-- f(e, ..) -/
def tCallW (sp : SpW) (dvs : List V) (t : TA) : TI2 := fun σ H R => t σ H fun vs H1 => ∃ J B, sp (vs ++ dvs) H1 J B ∧ R J B H1
theorem pi2_call {e : Expr} {es : List Expr} {t : TA} (F : GFnW X.prog X.w X.K X.mg X.base k f fd ps sp) (hr : Room k X.A) (hg : Gl X x) (hm : X.mg x = some (.ref f)) (hk : PySem.W.keepIn X.K (.ref f) = true) (hb : Binds X.K fd ps ds) (hd : Vals dvs ds)
    (ha : PA X (e :: es) t) (hdb : (x == ("__debug__" : Str)) = false := by decide) (he : starEach (e :: es) X.env = (false, eval e X.env) :: starEach es X.env := by rfl) (hpl : (backTo pos' (starEach es X.env)).any (·.1) = false := by rfl) :
    PI2 X k (.Call (.Name x p) (e :: es) [] pos') (tCallW sp dvs t) := by
  refine ⟨fun pins s σ H R I h => ?_⟩
  refine wpAny_Call_Name_kw (ld_glob I hg hm ?_ hdb)
  refine PySem.W.callWith_K (h₀ := X.base) I.ok.mod.kin hk (thn (ha.run pos' pins s σ H _ I h) fun us s1 h1 => ?_) he hpl
  obtain ⟨vs, H1, I1, r, J, B, q, q2⟩ := h1
  exact ⟨I1.kIn, run_gfnw F hr hb hd I1 r q q2⟩
end
/-! ### code between two items leaves the generator asleep -/
theorem Inv.regen {X : Cx} {pins : List (Addr × Obj)} {σ : L2.St} {H : Hp} {s : Shared} {G : Array GenState} (I : L2.Inv X pins σ H s) (hG : AllBare G) : L2.Inv X pins σ H { s with gens := G } :=
  I.call' (ch := []) rfl Un.refl I.hok hG fun b hb => by cases hb
theorem bare_dead {G : Array GenState} (h : AllBare G) : AllBare (G.map dead) := fun y hy => by
  obtain ⟨x, hx, rfl⟩ := Array.mem_map.mp hy
  have := h x hx
  cases x <;> exact this
theorem bare_poi {G0 G D : Array GenState} (h0 : AllBare G0) (hD : AllBare D) (p : Poi (Sleeps G0) G D) (e : ∀ i, Sleeps G0 i → G[i]? = G0[i]?) : AllBare G := fun y hy => by
  obtain ⟨i, hi, rfl⟩ := Array.mem_iff_getElem.mp hy
  have q : G[i]? = some G[i] := Array.getElem?_eq_getElem hi
  by_cases z : Sleeps G0 i
  · rw [e i z] at q
    exact h0 _ (Array.mem_of_getElem? q)
  · rw [(p.out i z).1] at q
    exact hD _ (Array.mem_of_getElem? q)
theorem stays {M : Model} {A : Around} {α : Type} {t : Sem α} {Q : α → Shared → Prop} {E : Value → Shared → Prop} {s : Shared} (hb : AllBare s.gens) (h : ∀ G, AllBare G → wpAny M A t Q (fun _ _ => False) { s with gens := G })
    (hQ : ∀ a s' G, Q a s' → AllBare G → Q a { s' with gens := G }) (hB : ∀ a s', Q a s' → AllBare s'.gens) : wpAny M A t (fun a s' => Q a s' ∧ ∀ g, Sleeps s.gens g → s'.gens[g]? = s.gens[g]?) E s := by
  refine wpAny_mono (wpAny_still (h _ (bare_dead hb))) (fun a s' q => ?_) fun x s' q => ?_
  · obtain ⟨D, q1, q2, q3⟩ := q
    have bs : AllBare s'.gens := bare_poi hb (hB a _ q1) q2 q3
    exact ⟨hQ a { s' with gens := D } s'.gens q1 bs, q3⟩
  · obtain ⟨D, q1, _⟩ := q
    exact q1.elim
theorem sleeps_of {G G' : Array GenState} {g : Nat} (h : Sleeps G g) (e : G'[g]? = G[g]?) : Sleeps G' g := by
  obtain ⟨k, l, c, p, fs, cl, q⟩ := h
  exact ⟨k, l, c, p, fs, cl, e.trans q⟩
/-- the generator's own objects -/
def fpG (X : Cx) (op : List (Addr × Obj)) (Pv : Hp) (a : Addr) (h : Heap) : List Addr := a :: X.env.locals :: (op.map (·.1) ++ (List.range h.objs.size).filter fun b => (Pv b).isSome)
theorem fpG_mine {X : Cx} {op : List (Addr × Obj)} {Pv : Hp} {a b : Addr} {h : Heap} (hb : b ∈ fpG X op Pv a h) : b = a ∨ mine X op Pv b := by
  unfold fpG at hb
  rcases List.mem_cons.mp hb with z | hb
  · exact .inl z
  rcases List.mem_cons.mp hb with z | hb
  · exact .inr (.inl z)
  rcases List.mem_append.mp hb with z | z
  · obtain ⟨p, hp, e⟩ := List.mem_map.mp z
    exact .inr (.inr (.inl ⟨p, hp, e⟩))
  · exact .inr (.inr (.inr (by simpa using (List.mem_filter.mp z).2)))
theorem mine_fpG {X : Cx} {op : List (Addr × Obj)} {σ : L2.St} {Pv : Hp} {a b : Addr} {h : Heap} (f : OwnF X op σ Pv h) (hb : mine X op Pv b) : b ∈ fpG X op Pv a h := by
  unfold fpG
  rcases hb with z | ⟨p, hp, z⟩ | z
  · exact List.mem_cons_of_mem _ (by rw [z]; exact List.mem_cons_self)
  · exact List.mem_cons_of_mem _ (List.mem_cons_of_mem _ (List.mem_append_left _ (List.mem_map.mpr ⟨p, hp, z⟩)))
  · refine List.mem_cons_of_mem _ (List.mem_cons_of_mem _ (List.mem_append_right _ (List.mem_filter.mpr ⟨List.mem_range.mpr ?_, by simpa using z⟩)))
    cases q : Pv b with
    | none => rw [q] at z; cases z
    | some o =>
      obtain ⟨_, xs, _, ok⟩ := f.pv b o q
      exact ok.lt
theorem fpG_obj {X : Cx} {op : List (Addr × Obj)} {σ : L2.St} {Pv : Hp} {a b : Addr} {g : Nat} {h h0 : Heap} (f : OwnF X op σ Pv h) (ga : h.IsGen a g) (hb : b ∈ fpG X op Pv a h0) : ∃ o, h.get? b = some o ∧ ∀ v, o.data ≠ .cell v := by
  rcases fpG_mine hb with z | z | ⟨p, hp, z⟩ | z
  · subst z
    obtain ⟨o, nm, qn, e, _, d, _⟩ := ga
    exact ⟨o, e, fun v q => by rw [d] at q; cases q⟩
  · subst z
    obtain ⟨m, ⟨o, es, ep, e, d, _⟩, _⟩ := f.loc
    exact ⟨o, e, fun v q => by rw [d] at q; cases q⟩
  · subst z
    obtain ⟨e, _, _, d, _⟩ := f.op p hp
    exact ⟨_, e, d⟩
  · cases q : Pv b with
    | none => rw [q] at z; cases z
    | some o =>
      obtain ⟨_, xs, _, _, its, n, _, e⟩ := f.pv b o q
      exact ⟨_, e, fun v q => by cases q⟩
theorem Asl.on {X : Cx} {A : Around} {F : List Addr} {J : It2} {B : Nat} {a : Addr} {g i : Nat} {op : List (Addr × Obj)} {σ : L2.St} {Pv : Hp} {s s' : Shared} (h : Asl X A F J B a g i op σ Pv s) (hc : ∀ x, X.env.cells.lookup x = none) (eg : s'.gens[g]? = s.gens[g]?)
    (k : ∀ b ∈ fpG X op Pv a s.heap, ∀ o, s.heap.get? b = some o → s'.heap.get? b = some o) : Asl X A F J B a g i op σ Pv s' := by
  obtain ⟨h1, h2, ⟨gs, h3, h4⟩, h5⟩ := h
  refine ⟨?_, h2, ⟨gs, eg.trans h3, h4⟩, h5.keep hc fun b o hb e => k b (mine_fpG h5 hb) o e⟩
  obtain ⟨o, nm, qn, e, r⟩ := h1
  exact ⟨o, nm, qn, k a List.mem_cons_self o e, r⟩
/-! ### for, over a generator -/
def tForW (wi : TI2) (g : TG) (tb : TS) : TS := fun D σ H => wi σ H fun J _ H1 => ∃ W : Nat → L2.St → Hp → Prop, W 0 σ H1 ∧ ∀ i σ H, W i σ H → J.ok i H ∧ (∀ H', J.fin i H H' → D.nx σ H') ∧
  ∀ x H', J.yld i H x H' → g x σ H' fun σ2 H2 => tb { D with nx := W (i + 1), ct := W (i + 1), bk := D.nx } σ2 H2
theorem ps_forW {X : Cx} {k : Nat} {tg iter : Expr} {body : List Stmt} {wi : TI2} {g : TG} {tb : TS} {pos : Pos} (hp : PassesOwn (model X.prog X.w) X.A X.env X.xe) (hc : X.calm = true) (hr : Room (k + 1) X.A) (hi : PI2 X k iter wi) (hg : PG X.nox tg g) (hb : PSs X.nox body tb)
    (hs : ∀ x, foldedSetIterable iter X.env x = pure x := by intro _; rfl) : PS X (.For tg iter body [] pos) (tForW wi g tb) := by
  refine ⟨fun pins s σ H D I h => ?_⟩
  refine wpAny_For (thn (hi.run pins s σ H _ I h) fun v s1 h1 => ?_) hs
  obtain ⟨H1, sc, J, B, Ic, ⟨W, w0, turn⟩, a, gn, c, σg, rfl, hga, hgs, ha, hos, hbr, hkp, mk⟩ := h1
  refine wpAny_pyIter_gen hga ?_
  obtain ⟨Xg, xp, xw, xb, xo, xl, held, own0, stg⟩ := mk X.A.in1 hr.in1 Ic.ok.frames
  have I1 : L2.Inv X pins σ H1 s1 := Ic.call' (ch := []) hos (Un.kept hkp) (Ic.hok.kept hkp) hbr fun b hb => by cases hb
  have fsl : ∀ b ∈ frs X.stack, b < Xg.env.locals := fun b hb => by
    obtain ⟨_, o, e, _⟩ := Ic.stack.mem hb
    rw [xl]
    exact Heap.lt_size e
  have pr : Pair X Xg a [a] := ⟨held, xp, xw, xb, xo, List.mem_singleton.mpr rfl, fsl⟩
  have cells := held.own.cells
  have young : ∀ {b H'}, Xg.env.locals ≤ b → H' b = none → FpOk X pins H' b := fun hb hn => Ic.fpOk (by rw [← xl]; exact hb) hn
  have aL : Xg.env.locals < a := by rw [xl]; exact ha
  refine codeAny_forLoop_any (fun n s' => ∃ i σ' H' op σo Pv, L2.Inv X pins σ' H' s' ∧ Asl Xg X.A.in1 [a] J B a gn i op σo Pv s' ∧ (∀ b, mine Xg op Pv b → H' b = none ∧ Xg.env.locals ≤ b ∧ b ∉ [a]) ∧ H' a = none ∧ W i σ' H' ∧ n = B - i) ?_ (B - 0)
    ⟨0, σ, H1, [], σg, fun _ => none, I1, ⟨hga, Nat.zero_le _, ⟨_, hgs, stg [a]⟩, own0⟩, fun b hb => ?_, Ic.hok.fresh (Nat.le_of_lt ha), w0, rfl⟩
  · rintro n s3 ⟨i, σ3, H3, op, σo, Pv, I3, as3, mi3, na3, w3, rfl⟩
    obtain ⟨okJ, fin, step⟩ := turn i σ3 H3 w3
    refine wpAny_passesOwn hp (next_ok (X := Xg) (F := [a]) pr hc hr.depth I3 as3 okJ (fun b hb => (mi3 b hb).1) (fun b hb => ?_) (fun b hb _ _ hn => ?_) (fun x v H5 op5 σ5 Pv5 s5 I5 rv y5 as5 mi5 fk5 tm5 sl5 => ?_) fun H5 s5 I5 fn fk5 => ?_)
    · have e := List.mem_singleton.mp hb
      subst e
      obtain ⟨o, nm, qn, e, _, d, _⟩ := as3.gen
      exact ⟨⟨o, e, fun v q => by rw [d] at q; cases q⟩, na3, fun z => absurd (fsl _ z) (Nat.not_lt_of_le (Nat.le_of_lt aL)), fun z => (mi3 _ z).2.2 (List.mem_singleton.mpr rfl)⟩
    · obtain ⟨_, f2, _, f4, f5, f6⟩ := young (H' := H3) hb hn
      exact ⟨f4, f2, f5, f6⟩
    · obtain ⟨oa, nm, qn, ea, ca, da, _⟩ := id as5.gen
      have na5 : H5 a = none := by
        obtain ⟨o3, nm3, qn3, e3, _⟩ := as3.gen
        exact (fk5 a (List.mem_singleton.mpr rfl) o3 e3).2
      refine wpAny_passesOwn hp (go_of ea ca da (by decide) ?_)
      have f5 : ∀ b ∈ fpG Xg op5 Pv5 a s5.heap, FpOk X pins H5 b := fun b hb => by
        rcases fpG_mine hb with z | z
        · subst z; exact young (Nat.le_of_lt aL) na5
        · exact young (mi5 b z).2.1 (mi5 b z).1
      have I5' := I5.pinned f5 fun b hb => fpG_obj as5.own as5.gen hb
      generalize hpin : pins ++ pinsAt (fpG Xg op5 Pv5 a s5.heap) s5.heap = pins5 at I5'
      refine wpAny_passesOwn hp (thn (stays (Q := fun _ s' => ∃ σ' H', L2.Inv X.nox pins5 σ' H' s' ∧ (fun σ2 H2 => tb { D with nx := W (i + 1), ct := W (i + 1), bk := D.nx } σ2 H2) σ' H') I5'.bare (fun G hG => hg.run pins5 { s5 with gens := G } σ3 H5 x v _ ((Inv.regen I5' hG).wish _) rv (step x H5 y5))
        (fun _ s' G ⟨σ', H', q1, q2⟩ hG => ⟨σ', H', Inv.regen q1 hG, q2⟩) fun _ s' ⟨σ', H', q1, _⟩ => q1.bare) fun _ s6 h6 => ?_)
      obtain ⟨⟨σ6, H6, I6, q6⟩, st6⟩ := h6
      refine wpAny_passesOwn hp (thn (stays (Q := SP X.nox pins5 { D with nx := W (i + 1), ct := W (i + 1), bk := D.nx }) I6.bare (fun G hG => hb.run pins5 { s6 with gens := G } σ6 H6 _ (Inv.regen I6 hG) q6)
        (fun f s' G q hG => ?_) fun f s' q => ?_) fun f s7 h7 => ?_)
      · cases f with
        | next => obtain ⟨σ', H', q1, q2⟩ := q; exact ⟨σ', H', Inv.regen q1 hG, q2⟩
        | brk => obtain ⟨σ', H', q1, q2⟩ := q; exact ⟨σ', H', Inv.regen q1 hG, q2⟩
        | cont => obtain ⟨σ', H', q1, q2⟩ := q; exact ⟨σ', H', Inv.regen q1 hG, q2⟩
        | ret u => obtain ⟨v', σ', H', q1, q2⟩ := q; exact ⟨v', σ', H', Inv.regen q1 hG, q2⟩
      · cases f with
        | next => obtain ⟨σ', H', q1, q2⟩ := q; exact q1.bare
        | brk => obtain ⟨σ', H', q1, q2⟩ := q; exact q1.bare
        | cont => obtain ⟨σ', H', q1, q2⟩ := q; exact q1.bare
        | ret u => obtain ⟨v', σ', H', q1, q2⟩ := q; exact q1.bare
      · obtain ⟨q7, st7⟩ := h7
        have eg : s7.gens[gn]? = s5.gens[gn]? := by
          have e6 := st6 gn sl5
          rw [st7 gn (sleeps_of sl5 e6), e6]
        have next : ∀ {σ7 : L2.St} {H7 : Hp}, L2.Inv X.nox pins5 σ7 H7 s7 → W (i + 1) σ7 H7 → ∃ m, m < B - i ∧ ∃ i σ' H' op σo Pv, L2.Inv X pins σ' H' s7 ∧ Asl Xg X.A.in1 [a] J B a gn i op σo Pv s7 ∧ (∀ b, mine Xg op Pv b → H' b = none ∧ Xg.env.locals ≤ b ∧ b ∉ [a]) ∧ H' a = none ∧ W i σ' H' ∧ m = B - i := fun {σ7 H7} I7 w7 => by
          have I7 := I7.unwish
          subst hpin
          have pin7 : ∀ b ∈ fpG Xg op5 Pv5 a s5.heap, ∀ o, s5.heap.get? b = some o → s7.heap.get? b = some o ∧ H7 b = none := fun b hb o e =>
            have z := I7.pin (b, o) (List.mem_append_right _ (List.mem_append_right _ (mem_pinsAt hb e)))
            ⟨z.1, z.2.1⟩
          have nn : ∀ b ∈ fpG Xg op5 Pv5 a s5.heap, H7 b = none := fun b hb => by
            obtain ⟨o, e, _⟩ := fpG_obj as5.own as5.gen hb
            exact (pin7 b hb o e).2
          refine ⟨B - (i + 1), ?_, i + 1, σ7, H7, op5, σ5, Pv5, I7.unpinned, as5.on cells eg fun b hb o e => (pin7 b hb o e).1, fun b hb => ⟨nn b (mine_fpG as5.own hb), (mi5 b hb).2⟩, nn a List.mem_cons_self, w7, rfl⟩
          have := as5.le
          omega
        cases f with
        | next => obtain ⟨σ7, H7, I7, w7⟩ := q7; exact next I7 w7
        | cont => obtain ⟨σ7, H7, I7, w7⟩ := q7; exact next I7 w7
        | brk => obtain ⟨σ7, H7, I7, w7⟩ := q7; subst hpin; exact ⟨σ7, H7, I7.unwish.unpinned, w7⟩
        | ret u => obtain ⟨v7, σ7, H7, I7, r7, w7⟩ := q7; subst hpin; exact ⟨v7, σ7, H7, I7.unwish.unpinned, r7, w7⟩
    · exact wpAny_execs_nil ⟨σ3, H5, I5, fin H5 fn⟩
  · rcases hb with z | ⟨p, hp, z⟩ | z
    · subst z
      refine ⟨Ic.hok.fresh (by rw [xl]; exact Nat.le_refl _), Nat.le_refl _, fun z => ?_⟩
      exact Nat.ne_of_lt aL (List.mem_singleton.mp z)
    · cases hp
    · cases z
/-! ### a list comprehension over a generator -/
def tLcW (wi : TI2) (g : TG) (tt : TT) (te : TE) (vs : List Nat) : TE := fun σ H Q => wi σ H fun J _ H1 => ∀ D, H1 D = none → ∃ W : Nat → Hp → Prop, W 0 (upd H1 D (.lst [])) ∧ ∀ i H, W i H → H D ≠ none ∧ J.ok i H ∧ (∀ H', J.fin i H H' → Q (.ref D) H') ∧
  ∀ x H', J.yld i H x H' → g x (wipe σ vs) H' fun σ2 H2 => wipe σ2 vs = wipe σ vs ∧ tt σ2 H2 fun b H3 => if b = true then te σ2 H3 fun y H4 => ∃ acc, H4 D = some (.lst acc) ∧ acc.length < sizeLine ∧ W (i + 1) (upd H4 D (.lst (acc ++ [y]))) else W (i + 1) H3
theorem pe_lcW {X : Cx} {k : Nat} {elt tg iter : Expr} {ifs : List Expr} {scope : Scope} {own : List (Str × Nat)} {pos : Pos} {wi : TI2} {g : TG} {tt : TT} {te : TE} (hr : Room (k + 1) X.A) (hnc : ∀ y ∈ scope.names, y.2 ≠ .cell) (hc : X.calm = true) (hN : X.N.Nodup) (hi : PI2 X k iter wi) (ok : BlkOk X.N X.env.scope scope own)
    (hg : ∀ (s : Shared) (H : Hp) (C : Addr) (cl : List (Str × Addr)) (fp : List Addr), PG (X.blk s H scope (compEnvC scope cl C X.env) fp) tg g) (ht : ∀ (s : Shared) (H : Hp) (C : Addr) (cl : List (Str × Addr)) (fp : List Addr), PTs (X.blk s H scope (compEnvC scope cl C X.env) fp) ifs tt)
    (he : ∀ (s : Shared) (H : Hp) (C : Addr) (cl : List (Str × Addr)) (fp : List Addr), PE (X.blk s H scope (compEnvC scope cl C X.env) fp) elt te) (hs : ∀ x, foldedSetIterable iter X.env x = pure x := by intro _; rfl) :
    PE X (.ListComp elt [⟨tg, iter, ifs, 0⟩] scope pos) (tLcW wi g tt te (own.map (·.2))) := by
  refine ⟨fun pins s σ H Q I h => ?_⟩
  rw [eval_ListComp]
  have hfree : ∀ y ∈ scope.names, y.2 = .free → ∃ c, X.env.cells.lookup y.1 = some c := fun y hy e => (ok.free y hy e).elim (fun z => I.ok.has _ (.inl z)) fun z => I.ok.has _ (.inr z)
  refine wpAny_comprehension_free (use := none) rfl hs (closure_ok hfree) ok.kind (fun y hy e => by rw [ok.uniq y hy, e]) (thn (hi.run pins s σ H _ I h) fun v s1 h1 => ?_)
  obtain ⟨H1, sc, J, B, Ic, q, a, gn, c, σg, rfl, hga, hgs, ha, hos, hbr, hkp, mk⟩ := h1
  refine wpAny_pyIter_gen hga (wpAny_newObj_type (newEnv_comp ?_) (by show 0 ≤ sizeLine; decide))
  obtain ⟨Xg, xp, xw, xb, xo, xl, held, own0, stg⟩ := mk X.A.in1 hr.in1 Ic.ok.frames
  have I1 : L2.Inv X pins σ H1 s1 := Ic.call' (ch := []) hos (Un.kept hkp) (Ic.hok.kept hkp) hbr fun b hb => by cases hb
  have aS : a < s1.heap.objs.size := by obtain ⟨o, _, _, e, _⟩ := hga; exact Heap.lt_size e
  generalize hD : s1.heap.objs.size = D
  have hDn : H1 D = none := I1.hok.fresh (Nat.le_of_eq hD)
  obtain ⟨W, w0, turn⟩ := q D hDn
  generalize hs3 : ({ s1 with heap := s1.heap.push { cls := .type "list", data := .seq ([] : List Value).toArray } } : Shared) = s3
  have h3 : s3.heap = s1.heap.push { cls := .type "list", data := .seq ([] : List Value).toArray } := by rw [← hs3]
  have I3 : L2.Inv X pins σ (upd H1 D (.lst [])) s3 := by
    rw [← hs3]
    refine I1.laid (t' := s1.toks) (fun b o e => Heap.get?_push_of_some _ e) (Nat.le_of_eq hD) ⟨Nat.zero_le _, [], 0, .nil, ?_⟩
    rw [← hD]
    exact Heap.get?_push_size _ rfl
  have z3 : s3.heap.objs.size = D + 1 := by rw [h3, Heap.size_push, hD]
  have fsl : ∀ b ∈ frs X.stack, b < Xg.env.locals := fun b hb => by
    obtain ⟨_, o, e, _⟩ := Ic.stack.mem hb
    rw [xl]
    exact Heap.lt_size e
  have aL : Xg.env.locals < a := by rw [xl]; exact ha
  have aD : a < D := by rw [← hD]; exact aS
  -- what the generator's call made, but the list
  generalize hex : (List.range D).filter (fun b => decide (Xg.env.locals ≤ b)) = ex
  have mex : ∀ {b}, b ∈ ex ↔ b < D ∧ Xg.env.locals ≤ b := fun {b} => by
    rw [← hex]
    constructor
    · intro z
      obtain ⟨z1, z2⟩ := List.mem_filter.mp z
      exact ⟨List.mem_range.mp z1, of_decide_eq_true z2⟩
    · rintro ⟨z1, z2⟩
      exact List.mem_filter.mpr ⟨List.mem_range.mpr z1, decide_eq_true z2⟩
  have young : ∀ {b : Addr} {H' : Hp}, Xg.env.locals ≤ b → H' b = none → FpOk X pins H' b := fun hb hn => Ic.fpOk (by rw [← xl]; exact hb) hn
  have f3 : ∀ b ∈ ex, FpOk X pins (upd H1 D (.lst [])) b ∧ b < s3.heap.objs.size := fun b hb => by
    obtain ⟨z1, z2⟩ := mex.mp hb
    refine ⟨young z2 ?_, by rw [z3]; exact Nat.lt_succ_of_lt z1⟩
    rw [upd_ne (Nat.ne_of_lt z1)]
    exact Ic.hok.fresh (by rw [← xl]; exact z2)
  have I4 := block_start I3 ok hN f3
  have pg := hg s3 (upd H1 D (.lst [])) s3.heap.objs.size (cellsFrom (s3.heap.objs.size + 1) scope.names (cloFrom X.env.cells scope.names [])) ex
  have pt := ht s3 (upd H1 D (.lst [])) s3.heap.objs.size (cellsFrom (s3.heap.objs.size + 1) scope.names (cloFrom X.env.cells scope.names [])) ex
  have pe := he s3 (upd H1 D (.lst [])) s3.heap.objs.size (cellsFrom (s3.heap.objs.size + 1) scope.names (cloFrom X.env.cells scope.names [])) ex
  show codeAny _ _ (.compStart (.ListComp elt [⟨tg, iter, ifs, 0⟩] scope pos) 0 (.ref a) (.ref D) (compEnvC scope (cellsFrom (s3.heap.objs.size + 1) scope.names (cloFrom X.env.cells scope.names [])) s3.heap.objs.size X.env)) (compPost (model X.prog X.w) X.A X.xe none _ (.ref D) s3.heap.objs.size) { s3 with heap := pushCells (s3.heap.push { cls := .type "dict", data := .dict #[] }) scope.names }
  have ccl : ∀ x c, (cellsFrom (s3.heap.objs.size + 1) scope.names (cloFrom X.env.cells scope.names [])).lookup x = some c → c < Xg.env.locals := fun x c e => by
    rw [← Heap.size_push s3.heap { cls := .type "dict", data := .dict #[] }] at e
    rcases cells_mem (PySem.mem_of_lookup e) with z | ⟨z, _⟩
    · rcases cloFrom_mem z with z | ⟨z1, z2⟩
      · cases z
      · obtain ⟨c', e'⟩ := hfree _ z1 rfl
        have e' : X.env.cells.lookup x = some c' := e'
        rw [e'] at z2
        obtain ⟨v, q⟩ := Ic.cell x c' e'
        rw [xl, z2]
        exact q.lt
    · exact absurd rfl (hnc _ z)
  generalize hce : compEnvC scope (cellsFrom (s3.heap.objs.size + 1) scope.names (cloFrom X.env.cells scope.names [])) s3.heap.objs.size X.env = ce at I4 pg pt pe ⊢
  have cL : ce.locals = D + 1 := by subst hce; exact z3
  have cC : ∀ x c, ce.cells.lookup x = some c → c < Xg.env.locals := by subst hce; exact ccl
  generalize hH3 : upd H1 D (.lst []) = H3 at I3 I4 pg pt pe w0 f3
  generalize hs4 : ({ s3 with heap := pushCells (s3.heap.push { cls := .type "dict", data := .dict #[] }) scope.names } : Shared) = s4 at I4 ⊢
  have k34 : ∀ b o, s3.heap.get? b = some o → s4.heap.get? b = some o := fun b o e => by rw [← hs4]; exact pushCells_keeps _ _ _ _ (Heap.get?_push_of_some _ e)
  have k14 : ∀ b o, s1.heap.get? b = some o → s4.heap.get? b = some o := fun b o e => k34 b o (by rw [h3]; exact Heap.get?_push_of_some _ e)
  have g14 : s4.gens = s1.gens := by rw [← hs4, ← hs3]
  generalize hXb : X.blk s3 H3 scope ce ex = Xb at I4 pg pt pe
  have b1 : Xb.stack = X.stack := by rw [← hXb]
  have b2 : Xb.env = ce := by rw [← hXb]
  have b3 : Xb.ex = ex := by rw [← hXb]
  have b4 : Xb.s_0 = s3 := by rw [← hXb]
  have b5 : Xb.pn = [] := by rw [← hXb]
  have b6 : Xb.prog = X.prog := by rw [← hXb]
  have b7 : Xb.w = X.w := by rw [← hXb]
  have b8 : Xb.A = X.A := by rw [← hXb]
  have b9 : Xb.xe = fun _ _ => False := by rw [← hXb]
  have bf : Xb.fs = frs X.stack := by rw [← hXb]
  have bc : Xb.calm = true := by rw [← hXb]; exact hc
  have pr : Pair Xb Xg a [a, D + 1] := ⟨held, xp.trans b6.symm, xw.trans b7.symm, xb.trans (by rw [← hXb]), xo.trans b1.symm, List.mem_cons_self, fun b hb => fsl b (by rw [← b1]; exact hb)⟩
  have cells := held.own.cells
  have Lb : Xg.env.locals < D + 1 := Nat.lt_of_lt_of_le (Nat.lt_trans aL aD) (Nat.le_succ _)
  have yo : ∀ {H' : Hp} {b : Addr}, H' D ≠ none → Xg.env.locals ≤ b → b ∉ [a, D + 1] → H' b = none → (b ∈ Xb.ex ∨ Xb.s_0.heap.objs.size ≤ b) ∧ b ≠ Xb.env.locals ∧ (∀ x c, Xb.env.cells.lookup x = some c → c ≠ b) ∧ ∀ p ∈ Xb.pn ++ [], p.1 ≠ b := fun {H' b} hD' hb hF hn => by
    refine ⟨?_, ?_, fun x c e => ?_, fun p hp => by rw [b5] at hp; cases hp⟩
    · rw [b3, b4, z3]
      rcases Nat.lt_trichotomy b D with z | z | z
      · exact .inl (mex.mpr ⟨z, hb⟩)
      · exact absurd (by rw [← z]; exact hn) hD'
      · exact .inr z
    · rw [b2, cL]
      exact fun z => hF (by rw [z]; exact List.mem_cons_of_mem _ List.mem_cons_self)
    · rw [b2] at e
      exact Nat.ne_of_lt (Nat.lt_of_lt_of_le (cC x c e) hb)
  have fpB : ∀ {H' : Hp} {b : Addr}, H' D ≠ none → Xg.env.locals ≤ b → b ≠ D + 1 → H' b = none → FpOk Xb [] H' b := fun {H' b} hD' hb hF hn => by
    refine ⟨hn, by rw [b2, cL]; exact hF, by rw [bf]; exact fun z => absurd (fsl b z) (Nat.not_lt_of_le hb), ?_, fun x c e => ?_, fun p hp => by rw [b5] at hp; cases hp⟩
    · rw [b3, b4, z3]
      rcases Nat.lt_trichotomy b D with z | z | z
      · exact .inl (mex.mpr ⟨z, hb⟩)
      · exact absurd (by rw [← z]; exact hn) hD'
      · exact .inr z
    · rw [b2] at e
      exact Nat.ne_of_lt (Nat.lt_of_lt_of_le (cC x c e) hb)
  have loop : codeAny (model X.prog X.w) X.A (.compLoop (.ListComp elt [⟨tg, iter, ifs, 0⟩] scope pos) 0 (.ref a) (.ref D) ce) (compPost (model X.prog X.w) X.A X.xe none (fun u s' => EP X pins σ Q u s') (.ref D) s3.heap.objs.size) s4 := by
    refine compLoop_any (fun n s' => ∃ i H' op σo Pv, L2.Inv Xb [] (wipe σ (own.map (·.2))) H' s' ∧ Asl Xg X.A.in1 [a, D + 1] J B a gn i op σo Pv s' ∧ (∀ b, mine Xg op Pv b → H' b = none ∧ Xg.env.locals ≤ b ∧ b ∉ [a, D + 1]) ∧ H' a = none ∧ W i H' ∧ n = B - i) ?_ (B - 0)
      ⟨0, H3, [], σg, fun _ => none, I4, ⟨?_, Nat.zero_le _, ⟨_, by rw [g14]; exact hgs, stg [a, D + 1]⟩, own0.keep cells fun b o _ e => k14 b o e⟩, fun b hb => ?_, ?_, w0, rfl⟩
    · rintro n s5 ⟨i, H5, op, σo, Pv, I5, as5, mi5, na5, w5, rfl⟩
      obtain ⟨hD5, okJ, fin, step⟩ := turn i H5 w5
      have nL : H5 (D + 1) = none := by
        have z := I5.free
        rw [b2, cL] at z
        exact z
      have asB : Asl Xg Xb.A.in1 [a, D + 1] J B a gn i op σo Pv s5 := by rw [b8]; exact as5
      have nx := next_ok (Xc := Xb) (X := Xg) (F := [a, D + 1]) (pins := []) (σc := wipe σ (own.map (·.2))) (E := fun _ _ => False) (Q := fun r s6 => match r with
        | none => compPost (model X.prog X.w) X.A X.xe none (fun u s' => EP X pins σ Q u s') (.ref D) s3.heap.objs.size (.ok .next) s6
        | some v => ∃ x H6 op6 σ6 Pv6, L2.Inv Xb [] (wipe σ (own.map (·.2))) H6 s6 ∧ RelV x v ∧ J.yld i H5 x H6 ∧ Asl Xg X.A.in1 [a, D + 1] J B a gn (i + 1) op6 σ6 Pv6 s6 ∧ (∀ b, mine Xg op6 Pv6 b → H6 b = none ∧ Xg.env.locals ≤ b ∧ b ∉ [a, D + 1]) ∧ H6 a = none ∧ H6 D ≠ none ∧ Sleeps s6.gens gn)
        pr bc (by rw [b8]; exact hr.depth) I5 asB okJ (fun b hb => (mi5 b hb).1) (fun b hb => ?_) (fun b hb _ hF hn => yo hD5 hb hF hn) (fun x v H6 op6 σ6 Pv6 s6 I6 rv y6 as6 mi6 fk6 tm6 sl6 => ?_) fun H6 s6 I6 fn fk6 => ?_
      · rw [b6, b7, b8] at nx
        refine thnF nx fun r s6 h6 => ?_
        cases r with
        | none => exact h6
        | some v =>
          obtain ⟨x, H6, op6, σ6, Pv6, I6, rv, y6, as6, mi6, na6, nD6, sl6⟩ := h6
          obtain ⟨oa, nm, qn, ea, ca, da, _⟩ := id as6.gen
          refine go_of ea ca da (by decide) ?_
          have f6 : ∀ b ∈ fpG Xg op6 Pv6 a s6.heap, FpOk Xb [] H6 b := fun b hb => by
            rcases fpG_mine hb with z | z
            · subst z; exact fpB nD6 (Nat.le_of_lt aL) (Nat.ne_of_lt (Nat.lt_succ_of_lt aD)) na6
            · exact fpB nD6 (mi6 b z).2.1 (fun e => (mi6 b z).2.2 (by rw [e]; exact List.mem_cons_of_mem _ List.mem_cons_self)) (mi6 b z).1
          have I6' := I6.pinned f6 fun b hb => fpG_obj as6.own as6.gen hb
          generalize hpin : [] ++ pinsAt (fpG Xg op6 Pv6 a s6.heap) s6.heap = pins6 at I6'
          let Pe : V → Hp → Prop := fun y H4 => ∃ acc, H4 D = some (.lst acc) ∧ acc.length < sizeLine ∧ W (i + 1) (upd H4 D (.lst (acc ++ [y])))
          let Pb : L2.St → Bool → Hp → Prop := fun σ2 b H3 => if b = true then te σ2 H3 Pe else W (i + 1) H3
          let Pt : L2.St → Hp → Prop := fun σ2 H2 => wipe σ2 (own.map (·.2)) = wipe σ (own.map (·.2)) ∧ tt σ2 H2 (Pb σ2)
          -- the target
          have r1 := stays (M := model X.prog X.w) (A := X.A) (E := fun _ _ => False) (t := assign tg ce v) (s := s6) (Q := fun _ s' => ∃ σ' H', L2.Inv Xb pins6 σ' H' s' ∧ Pt σ' H') I6'.bare (fun G hG => by
              have z := pg.run pins6 { s6 with gens := G } _ H6 x v _ (Inv.regen I6' hG) rv (step x H6 y6)
              rw [b6, b7, b8, b9, b2] at z
              exact z) (fun _ s' G ⟨σ', H', q1, q2⟩ hG => ⟨σ', H', Inv.regen q1 hG, q2⟩) fun _ s' ⟨σ', H', q1, _⟩ => q1.bare
          refine thnF r1 fun _ s8 ⟨⟨σ8, H8, I8, hw8, q8⟩, st8⟩ => ?_
          have r2 := stays (M := model X.prog X.w) (A := X.A) (E := fun _ _ => False) (s := s8) (t := forIn ifs true fun c r => if r = true then do let ok ← isTrue c ce (eval c ce); pure (ForInStep.yield ok) else pure (ForInStep.yield r)) (Q := TP Xb pins6 σ8 (Pb σ8)) I8.bare (fun G hG => by
              have z := pt.run pins6 { s8 with gens := G } σ8 H8 _ (Inv.regen I8 hG) q8
              rw [b6, b7, b8, b9, b2] at z
              exact z) (fun _ s' G ⟨H', q1, q2⟩ hG => ⟨H', Inv.regen q1 hG, q2⟩) fun _ s' ⟨H', q1, _⟩ => q1.bare
          refine thnF r2 fun b s9 ⟨⟨H9, I9, q9⟩, st9⟩ => ?_
          have g9 : s9.gens[gn]? = s6.gens[gn]? := by
            have z := st8 gn sl6
            rw [st9 gn (sleeps_of sl6 z), z]
          have fin2 : ∀ {s' : Shared} {H' : Hp}, L2.Inv Xb pins6 σ8 H' s' → s'.gens[gn]? = s6.gens[gn]? → W (i + 1) H' → ∃ m, m < B - i ∧ ∃ i H' op σo Pv, L2.Inv Xb [] (wipe σ (own.map (·.2))) H' s' ∧ Asl Xg X.A.in1 [a, D + 1] J B a gn i op σo Pv s' ∧ (∀ b, mine Xg op Pv b → H' b = none ∧ Xg.env.locals ≤ b ∧ b ∉ [a, D + 1]) ∧ H' a = none ∧ W i H' ∧ m = B - i := fun {s' H'} I' eg nx => by
            subst hpin
            have pin7 : ∀ b ∈ fpG Xg op6 Pv6 a s6.heap, ∀ o, s6.heap.get? b = some o → s'.heap.get? b = some o ∧ H' b = none := fun b hb o e =>
              have z := I'.pin (b, o) (List.mem_append_right _ (List.mem_append_right _ (mem_pinsAt hb e)))
              ⟨z.1, z.2.1⟩
            have nn : ∀ b ∈ fpG Xg op6 Pv6 a s6.heap, H' b = none := fun b hb => by
              obtain ⟨o, e, _⟩ := fpG_obj as6.own as6.gen hb
              exact (pin7 b hb o e).2
            have hl : (wipe σ (own.map (·.2))).length = σ8.length := by rw [← hw8, wipe_length]
            refine ⟨B - (i + 1), ?_, i + 1, H', op6, σ6, Pv6, (I'.unpinned (pins := [])).weak hl (fun j v e => ?_), as6.on cells eg fun b hb o e => (pin7 b hb o e).1, fun b hb => ⟨nn b (mine_fpG as6.own hb), (mi6 b hb).2⟩, nn a List.mem_cons_self, nx, rfl⟩
            · have := as6.le
              omega
            · rw [← hw8] at e
              exact (wipe_some e).1
          cases b with
          | false =>
            simp only [Bool.false_eq_true, if_false] at q9 ⊢
            exact fin2 I9 g9 q9
          | true =>
            simp only [if_true] at q9 ⊢
            have r3 := stays (M := model X.prog X.w) (A := X.A) (E := fun _ _ => False) (t := eval elt ce) (s := s9) (Q := EP Xb pins6 σ8 Pe) I9.bare (fun G hG => by
                have z := pe.run pins6 { s9 with gens := G } σ8 H9 _ (Inv.regen I9 hG) q9
                rw [b6, b7, b8, b9, b2] at z
                exact z) (fun _ s' G ⟨v', H', q1, q2⟩ hG => ⟨v', H', Inv.regen q1 hG, q2⟩) fun _ s' ⟨v', H', q1, _⟩ => q1.bare
            refine thnF r3 fun z s10 ⟨⟨yv, H10, I10, r10, acc, hD10, hz10, nx⟩, st10⟩ => ?_
            have g10 : s10.gens[gn]? = s6.gens[gn]? := by rw [st10 gn (sleeps_of sl6 g9), g9]
            have r4 := stays (M := model X.prog X.w) (A := X.A) (E := fun _ _ => False) (t := call (.builtin "list.append") [.ref D, z]) (s := s10) (Q := fun _ s' => L2.Inv Xb pins6 σ8 (upd H10 D (.lst (acc ++ [yv]))) s') I10.bare (fun G hG => by
                have z := app_ok (X := Xb) (E := fun _ _ => False) (Q := fun _ s' => L2.Inv Xb pins6 σ8 (upd H10 D (.lst (acc ++ [yv]))) s') (Inv.regen I10 hG) hD10 hz10 r10 fun s11 I11 => I11
                rw [b6, b7, b8] at z
                exact z) (fun _ s' G q1 hG => Inv.regen q1 hG) fun _ s' q1 => q1.bare
            refine thnF r4 fun _ s11 ⟨I11, st11⟩ => fin2 I11 ?_ nx
            rw [st11 gn (sleeps_of sl6 g10), g10]
      · have hb' : b = a ∨ b = D + 1 := by
          rcases List.mem_cons.mp hb with z | z
          · exact .inl z
          · exact .inr (List.mem_singleton.mp z)
        rcases hb' with e | e
        · subst e
          obtain ⟨o, nm, qn, e, _, d, _⟩ := as5.gen
          exact ⟨⟨o, e, fun v q => by rw [d] at q; cases q⟩, na5, (fun z => absurd (fsl _ (by rw [← b1]; exact z)) (Nat.not_lt_of_le (Nat.le_of_lt aL))), fun z => (mi5 _ z).2.2 List.mem_cons_self⟩
        · subst e
          obtain ⟨m, ⟨o, es, ep, e, d, _⟩, _⟩ := I5.loc
          rw [b2, cL] at e
          exact ⟨⟨o, e, fun v q => by rw [d] at q; cases q⟩, nL, (fun z => absurd (fsl _ (by rw [← b1]; exact z)) (Nat.not_lt_of_le (Nat.le_of_lt Lb))), fun z => (mi5 _ z).2.2 (List.mem_cons_of_mem _ List.mem_cons_self)⟩
      · refine ⟨x, H6, op6, σ6, Pv6, I6, rv, y6, by rw [← b8]; exact as6, mi6, ?_, tm6.has D hD5, sl6⟩
        obtain ⟨o3, nm3, qn3, e3, _⟩ := as5.gen
        exact (fk6 a List.mem_cons_self o3 e3).2
      · -- back in the def's context
        have u6 := I6.base
        have I7 : L2.Inv X pins σ H6 s6 := by
          refine I3.call' (ch := ex) ?_ ?_ ?_ I6.bare fun b hb => ⟨(f3 b hb).1.2.2.2.1, (f3 b hb).1.2.1, (f3 b hb).1.2.2.2.2.1, (f3 b hb).1.2.2.2.2.2⟩
          · have z := I6.os; rw [b4] at z; exact z
          · rw [← hXb] at u6; exact u6
          · have z := I6.hok; rw [b6, b7] at z; exact z
        have nC : H6 (D + 1) = none := by
          have z := I6.free
          rw [b2, cL] at z
          exact z
        obtain ⟨m, hn, _⟩ := I6.loc
        rw [b2, cL] at hn
        refine ⟨m, by rw [z3]; exact hn, fun h' sb => ?_⟩
        obtain ⟨f0, f1, f2, f3', f4, f5⟩ := I3.fpOk (b := D + 1) (H' := H6) (by rw [z3]; exact Nat.le_refl _) nC
        rw [z3] at sb
        exact ⟨.ref D, H6, I7.turned (t' := s6.toks) (fun b o hb e => (sb.2 b hb).trans e) f0 f1 f3' f4 f5, rfl, fin H6 fn⟩
    · obtain ⟨o, nm, qn, e, r⟩ := hga
      exact ⟨o, nm, qn, k14 a o e, r⟩
    · rcases hb with z | ⟨p, hp, z⟩ | z
      · subst z
        refine ⟨?_, Nat.le_refl _, fun z => ?_⟩
        · rw [← hH3, upd_ne (Nat.ne_of_lt (Nat.lt_trans aL aD))]
          exact Ic.hok.fresh (by rw [xl]; exact Nat.le_refl _)
        · rcases List.mem_cons.mp z with z | z
          · exact Nat.ne_of_lt aL z
          · exact Nat.ne_of_lt Lb (List.mem_singleton.mp z)
      · cases hp
      · cases z
    · rw [← hH3, upd_ne (Nat.ne_of_lt aD)]
      exact Ic.hok.fresh (Nat.le_of_lt ha)
  refine codeAny_compStart_list loop (wpAny_pyIter_gen (g := gn) ?_ loop)
  obtain ⟨o, nm, qn, e, r⟩ := hga
  exact ⟨o, nm, qn, k14 a o e, r⟩
end Wk
end

/-! ### walked generators: readings -/
theorem Wk.gfnw_mk {x qual : Str} {st : Stmt} {f : Addr} {fd : FuncData} {N ps : List Str} {k : Nat} {sp : Wk.SpW} (F : Fun K x qual st f fd) (S : GScope N ps (defScope st)) (hnc : ∀ n, cellsFrom n (defScope st).names [] = []) (len : ∀ vs H J B, sp vs H J B → vs.length = ps.length)
    (hbody : ∀ (cdv : Value) (A : Around) (outer : List Env) (s : Shared) (H : Hp) (vs : List V) (J : Wk.It2) (B : Nat), Room k (A.deeper (PyProof.Rows.envOfC qual (defScope st) s.heap.objs.size f cdv)) → sp vs H J B →
      ∃ t, Wk.WSs (Wk.wcx P w K mg base N qual (defScope st) f cdv A outer s H) J B (defBody st) t ∧ ∀ γ : Wk.Gh, γ.i = 0 → J.ok 0 γ.H → t (Wk.WDone s.heap.objs.size J) γ (L2.start N vs) γ.H) : Wk.GFnW P w K mg base (k + 1) f fd ps sp := by
  obtain ⟨oc, od, kV, doc, pm, an, cdv, ct, osl, rfl, lk, hcd⟩ := F.ex
  exact Wk.gfnw_of lk hcd S hnc len fun A outer s H vs J B hr hsp => hbody cdv A outer s H vs J B hr hsp
theorem Wk.join0 {H : Hp} : Wk.join (fun _ => none) H = H := rfl
theorem Wk.pv0 {L : Nat} {H : Hp} : Wk.PvOk L (fun _ => none) H := ⟨fun b o e => by cases e⟩
section
variable {D : Wk.WEnds} {γ : Wk.Gh} {σ : L2.St} {H : Hp} {t u : Wk.TW}
def kWFor (g : TG) (tb : Wk.TW) (D : Wk.WEnds) (γ : Wk.Gh) (σ : L2.St) : It → Hp → Prop := fun Jt H2 => ∃ W : Nat → Nat → Wk.Gh → L2.St → Hp → Prop, (∃ m, W 0 m γ σ H2) ∧ ∀ i m γ σ H, W i m γ σ H →
  (Jt.stop i H ∧ D.nx γ σ H) ∨ (Jt.go i H ∧ ∃ N : Wk.Gh → L2.St → Hp → Prop, (∀ γ' σ' H', N γ' σ' H' → ∃ m', m' < m ∧ W (i + 1) m' γ' σ' H') ∧ ∀ x H', Jt.yld i H x H' → g x σ H' fun σ2 H2 => tb { D with nx := N, ct := N, bk := D.nx } γ σ2 H2)
theorem r_wfor {wi : TI} {g : TG} {tb : Wk.TW} (h : wi σ H (kWFor g tb D γ σ)) : Wk.tWFor wi g tb D γ σ H := h
theorem r_wthen (h : t { D with nx := u D } γ σ H) : Wk.tWThen t u D γ σ H := h
theorem r_w0 (h : D.nx γ σ H) : Wk.tW0 D γ σ H := h
theorem r_wplain {t : TS} (h : t (D.at γ) σ H) : Wk.tWPlain t D γ σ H := h
theorem r_wif {c : TT} (h : c σ H fun b H1 => if b = true then t D γ σ H1 else u D γ σ H1) : Wk.tWIf c t u D γ σ H := h
/-- a yield where the generator keeps nothing to itself -/
def kWY (L : Nat) (J : Wk.It2) (D : Wk.WEnds) (γ : Wk.Gh) (σ : L2.St) : V → Hp → Prop := fun x H1 => ∃ Pv H', H1 = Wk.join Pv H' ∧ Wk.PvOk L Pv H' ∧ Wk.Tame γ.H H' ∧ J.yld γ.i γ.H x H' ∧ ∀ γ' : Wk.Gh, γ'.i = γ.i + 1 → J.ok γ'.i γ'.H → Wk.PvOk L Pv γ'.H → D.nx γ' σ (Wk.join Pv γ'.H)
theorem r_wyield {L : Nat} {J : Wk.It2} {B : Nat} {te : TE} (hi : γ.i < B) (h : te σ H (kWY L J D γ σ)) : Wk.tWYield L J B te D γ σ H := ⟨hi, h⟩
theorem r_kwy {L : Nat} {J : Wk.It2} {x : V} (tm : Wk.Tame γ.H H) (y : J.yld γ.i γ.H x H) (nx : ∀ γ' : Wk.Gh, γ'.i = γ.i + 1 → J.ok γ'.i γ'.H → D.nx γ' σ γ'.H) : kWY L J D γ σ x H :=
  ⟨fun _ => none, H, rfl, Wk.pv0, tm, y, fun γ' hi' ok _ => nx γ' hi' ok⟩
theorem r_wdone {L : Nat} {J : Wk.It2} (tm : Wk.Tame γ.H H) (f : J.fin γ.i γ.H H) : (Wk.WDone L J).nx γ σ H := ⟨fun _ => none, H, rfl, Wk.pv0, tm, f⟩
theorem r_wforE {a : Addr} {xs : List V} {g : TG} {tb : Wk.TW} (Pv : Nat → Wk.Gh → L2.St → Hp → Prop) (h0 : Pv 0 γ σ H) (hl : ∀ i γ σ H, i ≤ xs.length → Pv i γ σ H → SqL K H a xs)
    (hs : ∀ (i : Nat) (x : V) (γ : Wk.Gh) (σ : L2.St) (H H' : Hp) (T : Addr), xs[i]? = some x → Pv i γ σ H → H T = none → upd H T (.tup [.int (i : Nat), x]) = H' → g (.ref T) σ H' fun σ2 H2 => tb { D with nx := Pv (i + 1), ct := Pv (i + 1), bk := D.nx } γ σ2 H2)
    (hd : ∀ γ σ H, Pv xs.length γ σ H → D.nx γ σ H) : kWFor g tb D γ σ (Ite K a) H := by
  refine ⟨fun i m γ σ H => m = xs.length - i ∧ i ≤ xs.length ∧ Pv i γ σ H, ⟨xs.length, rfl, Nat.zero_le _, h0⟩, ?_⟩
  rintro i m γ σ H ⟨rfl, hi, p⟩
  have w := walk_enum (K := K) (a := a) (xs := xs)
  have q := hl i γ σ H hi p
  by_cases hlt : i < xs.length
  · refine .inr ⟨w.goes i H hlt q, Pv (i + 1), fun γ' σ' H' p' => ⟨xs.length - (i + 1), by omega, rfl, hlt, p'⟩, fun x H' y => ?_⟩
    obtain ⟨T, z, v, e1, e2, e3, e4, e5⟩ := w.yields i H x H' hlt q y
    cases e4
    subst e1
    exact hs i v γ σ H H' T e5 p e2 e3.symm
  · have e : i = xs.length := by omega
    subst e
    exact .inl ⟨w.stops H q, hd γ σ H p⟩
end
/-- a generator that hands out ps, one after another; F: what it needs whenever it is asked; R: what is handed out -/
def seqJ {α : Type} (F : Hp → Prop) (ps : List α) (R : α → V → Hp → Prop) : Wk.It2 where
  ok := fun _ H => F H
  yld := fun i H x H' => L2.Same H H' ∧ ∃ a, ps[i]? = some a ∧ R a x H'
  fin := fun i H H' => i = ps.length ∧ L2.Same H H'
section
variable {α : Type} {F : Hp → Prop} {ps : List α} {R : α → V → Hp → Prop} {D : Ends} {σ : L2.St} {H : Hp} {B : Nat}
def kForW (g : TG) (tb : TS) (D : Ends) (σ : L2.St) : Wk.It2 → Nat → Hp → Prop := fun J _ H1 => ∃ W : Nat → L2.St → Hp → Prop, W 0 σ H1 ∧ ∀ i σ H, W i σ H → J.ok i H ∧ (∀ H', J.fin i H H' → D.nx σ H') ∧
  ∀ x H', J.yld i H x H' → g x σ H' fun σ2 H2 => tb { D with nx := W (i + 1), ct := W (i + 1), bk := D.nx } σ2 H2
theorem r_forW {wi : Wk.TI2} {g : TG} {tb : TS} (h : wi σ H (kForW g tb D σ)) : Wk.tForW wi g tb D σ H := h
theorem r_forWs {g : TG} {tb : TS} (Pv : Nat → L2.St → Hp → Prop) (h0 : Pv 0 σ H) (hF : ∀ i σ H, Pv i σ H → F H)
    (hs : ∀ (i : Nat) (a : α) (x : V) (σ : L2.St) (H H' : Hp), ps[i]? = some a → Pv i σ H → L2.Same H H' → R a x H' → g x σ H' fun σ2 H2 => tb { D with nx := Pv (i + 1), ct := Pv (i + 1), bk := D.nx } σ2 H2)
    (hd : ∀ σ H H', Pv ps.length σ H → L2.Same H H' → D.nx σ H') : kForW g tb D σ (seqJ F ps R) B H := by
  refine ⟨Pv, h0, fun i σ H p => ⟨hF i σ H p, fun H' q => ?_, fun x H' y => ?_⟩⟩
  · obtain ⟨e, s⟩ := q
    subst e
    exact hd σ H H' p s
  · obtain ⟨s, a, e, r⟩ := y
    exact hs i a x σ H H' e p s r
def kMethW (C : Addr) (m : Str) (sp : Wk.SpW) (dvs : List V) (σ : L2.St) (t : TA) (R : Wk.It2 → Nat → Hp → Prop) : V → Hp → Prop := fun x H1 => ∃ a dx fs, x = .ref a ∧ H1 a = some (.ins C dx fs) ∧ fs.lookup m = none ∧ t σ H1 fun vs H2 => ∃ J B, sp (x :: (vs ++ dvs)) H2 J B ∧ R J B H2
theorem r_methW {C : Addr} {m : Str} {sp : Wk.SpW} {dvs : List V} {ta : TE} {t : TA} {R : Wk.It2 → Nat → Hp → Prop} (h : ta σ H (kMethW C m sp dvs σ t R)) : Wk.tMethW C m sp dvs ta t σ H R := h
theorem r_kmethW {C a dx : Addr} {fs : List (Str × V)} {m : Str} {sp : Wk.SpW} {dvs : List V} {t : TA} {Q : Wk.It2 → Nat → Hp → Prop} (h : H a = some (.ins C dx fs)) (hl : fs.lookup m = none) (q : t σ H fun vs H2 => ∃ J B, sp (.ref a :: (vs ++ dvs)) H2 J B ∧ Q J B H2) : kMethW C m sp dvs σ t Q (.ref a) H := ⟨a, dx, fs, rfl, h, hl, q⟩
theorem r_callW {sp : Wk.SpW} {dvs : List V} {t : TA} {Q : Wk.It2 → Nat → Hp → Prop} (h : t σ H fun vs H1 => ∃ J B, sp (vs ++ dvs) H1 J B ∧ Q J B H1) : Wk.tCallW sp dvs t σ H Q := h
def kLcW (g : TG) (tt : TT) (te : TE) (vs : List Nat) (σ : L2.St) (Q : V → Hp → Prop) : Wk.It2 → Nat → Hp → Prop := fun J _ H1 => ∀ L, H1 L = none → ∃ W : Nat → Hp → Prop, W 0 (upd H1 L (.lst [])) ∧ ∀ i H, W i H → H L ≠ none ∧ J.ok i H ∧ (∀ H', J.fin i H H' → Q (.ref L) H') ∧
  ∀ x H', J.yld i H x H' → g x (wipe σ vs) H' fun σ2 H2 => wipe σ2 vs = wipe σ vs ∧ tt σ2 H2 fun b H3 => if b = true then te σ2 H3 fun y H4 => ∃ acc, H4 L = some (.lst acc) ∧ acc.length < sizeLine ∧ W (i + 1) (upd H4 L (.lst (acc ++ [y]))) else W (i + 1) H3
theorem r_lcW {wi : Wk.TI2} {g : TG} {tt : TT} {te : TE} {vs : List Nat} {Q : V → Hp → Prop} (h : wi σ H (kLcW g tt te vs σ Q)) : Wk.tLcW wi g tt te vs σ H Q := h
/-- [f(..) for .. in g if b(..)], its items known -/
theorem r_lcWs {g : TG} {tt : TT} {te : TE} {vs : List Nat} {Q : V → Hp → Prop} (b : α → Bool) (f : α → V) (hn : ps.length ≤ 100000) (hF : ∀ H', L2.Same H H' → F H')
    (ht : ∀ (i : Nat) (a : α) (x : V) (H' : Hp), ps[i]? = some a → L2.Same H H' → R a x H' → ∀ (RE : V → Hp → Prop) (RN : Hp → Prop), (∀ H4, b a = true → L2.Same H' H4 → RE (f a) H4) → (∀ H4, b a = false → L2.Same H' H4 → RN H4) →
      g x (wipe σ vs) H' fun σ2 H2 => wipe σ2 vs = wipe σ vs ∧ tt σ2 H2 fun c H3 => if c = true then te σ2 H3 RE else RN H3)
    (q : ∀ (H' : Hp) (l : Addr), L2.Same H H' → H l = none → H' l = some (.lst ((ps.filter b).map f)) → Q (.ref l) H') : kLcW g tt te vs σ Q (seqJ F ps R) B H := by
  intro L hL
  refine ⟨fun i H' => i ≤ ps.length ∧ L2.Same H H' ∧ H' L = some (.lst (((ps.take i).filter b).map f)), ⟨Nat.zero_le _, fun z o hz => by rw [upd_ne (ne_of_none hz hL)]; exact hz, by rw [upd_same]; rfl⟩, ?_⟩
  rintro i H1 ⟨hi, s1, e1⟩
  refine ⟨(by rw [e1]; exact (fun z => nomatch z)), hF _ s1, fun H2 fn => ?_, fun x H2 y => ?_⟩
  · obtain ⟨e, s⟩ := fn
    subst e
    rw [List.take_length] at e1
    exact q H2 L (s1.trans s) hL (s _ _ e1)
  · obtain ⟨s2, a, ea, r⟩ := y
    have hlt : i < ps.length := (List.getElem?_eq_some_iff.mp ea).1
    have et : ps.take (i + 1) = ps.take i ++ [a] := by rw [List.take_add_one, ea]; rfl
    refine ht i a x H2 ea (s1.trans s2) r _ _ (fun H4 hb s4 => ?_) (fun H4 hb s4 => ?_)
    · refine ⟨_, s4 _ _ (s2 _ _ e1), ?_, hlt, ?_, ?_⟩
      · rw [sz, List.length_map]
        have := List.length_filter_le b (ps.take i)
        rw [List.length_take] at this
        omega
      · intro z o hz
        rw [upd_ne (ne_of_none hz hL)]
        exact s4 _ _ (s2 _ _ (s1 _ _ hz))
      · rw [upd_same, et, List.filter_append, List.map_append, List.filter_cons, if_pos hb]
        rfl
    · refine ⟨hlt, s1.trans (s2.trans s4), ?_⟩
      rw [s4 _ _ (s2 _ _ e1), et, List.filter_append, List.filter_cons, if_neg (by rw [hb]; decide)]
      simp
end

/-! ### methods of the device -/
def putB (xs : List V) (a : Int) (v : V) : List V := if 0 ≤ a ∧ a < xs.length then xs.set a.toNat v else xs
theorem putB_len {xs : List V} {a : Int} {v : V} : (putB xs a v).length = xs.length := by
  unfold putB
  split
  · rw [List.length_set]
  · rfl
def sp_put_block : Sp := fun vs H Q _ => ∃ (l : Addr) (a : Int) (v : V) (xs : List V), vs = [.ref l, .int a, v] ∧ H l = some (.lst xs) ∧ ∀ H', upd H l (.lst (putB xs a v)) = H' → Q .non H'
theorem upd_self {H : Hp} {l : Addr} {o : HO} (h : H l = some o) : upd H l o = H := by
  funext b
  by_cases hb : b = l
  · rw [hb, upd_same, h]
  · rw [upd_ne hb]
theorem ok_put_block (T : Txt K mg) : FnOk P w K mg base CX0 1 T.a_put_block T.fd_put_block ["blocks", "address", "block"] sp_put_block := by
  refine T.F_put_block.ok sc_put_block (fun vs H Q E h => ?_) (fun cdv A outer s H vs Q E hr h => ?_)
  · obtain ⟨l, a, v, xs, rfl, _⟩ := h
    rfl
  · refine ⟨_, (pss_one (ps_if (pt_chain op_le op_lt pe_int (pv 1) (pe_callB (c_len) (by rfl) T.n_len (by decide +kernel) (pa_cons (pv 0) pa_nil)))
       (pss_one (ps_asg (pv 2) (pg_sub (pv 0) (pv 1) set_list)))
       pss_nil)), ?_⟩
    try dsimp only [cxOf, Cx.nox, Cx.wish]
    obtain ⟨l, a, v, xs, rfl, hl, q⟩ := h
    walk_at "rd"
    refine r_ite (fun h0 => ?_) (fun h0 => ?_)
    · walk_at "rd"
      refine r_ite (fun h1 => ?_) (fun h1 => ?_)
      · walk_at "rd"
        refine r_setl hl (ixN_ok h0 h1) ?_
        exact q _ (by rw [putB, if_pos ⟨h0, h1⟩])
      · walk_at "rd"
        exact q _ (by rw [putB, if_neg (fun z => h1 z.2)]; exact upd_self hl)
    · walk_at "rd"
      exact q _ (by rw [putB, if_neg (fun z => h0 z.1)]; exact upd_self hl)
theorem putF_same {f : Str} {x v : V} : ∀ {fs : List (Str × V)}, fs.lookup f = some v → (putF f x fs).length = fs.length
  | [], h => by simp at h
  | (g, y) :: r, h => by
    unfold putF
    by_cases e : g = f
    · rw [if_pos e]
      rfl
    · rw [if_neg e]
      rw [List.lookup_cons] at h
      have hb : (f == g) = false := by
        cases hb : f == g with
        | false => rfl
        | true => exact absurd (eq_of_beq hb).symm e
      rw [hb] at h
      rw [List.length_cons, List.length_cons, putF_same h]
/-- a command is counted -/
def takeF (m : DevM) : DevM := match m.left with
  | some n => if n = 0 then { m with off := true } else { m with left := some (n - 1) }
  | none => m
theorem takeF_lists (m : DevM) : (takeF m).sure = m.sure ∧ (takeF m).shown = m.shown ∧ (takeF m).wait = m.wait ∧ (takeF m).lay = m.lay := by
  unfold takeF
  split
  · split <;> exact ⟨rfl, rfl, rfl, rfl⟩
  · exact ⟨rfl, rfl, rfl, rfl⟩
def sp_takes (C : Addr) : Sp := fun vs H Q _ => ∃ (H0 : Hp) (d : Addr) (m : DevM), vs = [.ref d] ∧ DevIn C H0 H d m ∧ ∀ H', DevIn C H0 H' d (takeF m) → Keeps H H' → Q (.bl (!(takeF m).off)) H'
/-- a field of the device is set -/
theorem DevFs.left' {fs : List (Str × V)} {m : DevM} {su sh un : Addr} (h : DevFs fs m su sh un) (n : Option Int) : DevFs (putF "_commands_left" (leftV n) fs) { m with left := n } su sh un := by
  obtain ⟨h1, h2, h3, h4, h5, h6, h7, g1, g2, g3, g4, g5, g6, g7, g8, g9, g10, g11⟩ := h
  exact ⟨by rw [putF_same h6]; exact h1, by walk_at "lk", by walk_at "lk", by walk_at "lk", by walk_at "lk", by walk_at "lk", by walk_at "lk", by walk_at "lk", by walk_at "lk", by walk_at "lk", by walk_at "lk", by walk_at "lk", by walk_at "lk", by walk_at "lk", by walk_at "lk", by walk_at "lk", by walk_at "lk", by walk_at "lk"⟩
theorem DevFs.off' {fs : List (Str × V)} {m : DevM} {su sh un : Addr} (h : DevFs fs m su sh un) (b : Bool) : DevFs (putF "_power_is_off" (.bl b) fs) { m with off := b } su sh un := by
  obtain ⟨h1, h2, h3, h4, h5, h6, h7, g1, g2, g3, g4, g5, g6, g7, g8, g9, g10, g11⟩ := h
  exact ⟨by rw [putF_same h7]; exact h1, by walk_at "lk", by walk_at "lk", by walk_at "lk", by walk_at "lk", by walk_at "lk", by walk_at "lk", by walk_at "lk", by walk_at "lk", by walk_at "lk", by walk_at "lk", by walk_at "lk", by walk_at "lk", by walk_at "lk", by walk_at "lk", by walk_at "lk", by walk_at "lk", by walk_at "lk"⟩
theorem DevFs.uns' {fs : List (Str × V)} {m : DevM} {su sh un : Addr} (h : DevFs fs m su sh un) (u : Addr) (w : List (Int × V)) : DevFs (putF "_unsure" (.ref u) fs) { m with wait := w } su sh u := by
  obtain ⟨h1, h2, h3, h4, h5, h6, h7, g1, g2, g3, g4, g5, g6, g7, g8, g9, g10, g11⟩ := h
  exact ⟨by rw [putF_same h5]; exact h1, by walk_at "lk", by walk_at "lk", by walk_at "lk", by walk_at "lk", by walk_at "lk", by walk_at "lk", by walk_at "lk", by walk_at "lk", by walk_at "lk", by walk_at "lk", by walk_at "lk", by walk_at "lk", by walk_at "lk", by walk_at "lk", by walk_at "lk", by walk_at "lk", by walk_at "lk"⟩
theorem insNF {C dx : Addr} {fs : List (Str × V)} : ¬ Fixed (.ins C dx fs) := fun z => z
theorem lstNF {xs : List V} : ¬ Fixed (.lst xs) := fun z => z
/-- the device's own record is changed -/
theorem DevIn.setd {C : Addr} {H0 H H' : Hp} {d dx : Addr} {m m' : DevM} {fs fs' : List (Str × V)} {su sh un : Addr} {us : List Addr} (s0 : Same H0 H) (n0 : H0 d = none) (h1 : H d = some (.ins C dx fs)) (e : upd H d (.ins C dx fs') = H') (h2 : DevFs fs' m' su sh un)
    (h3 : H0 su = none) (h4 : H0 sh = none) (h5 : H0 un = none) (h6 : su ≠ sh) (h7 : su ≠ un) (h8 : sh ≠ un) (h9 : H su = some (.lst m.sure)) (h10 : H sh = some (.lst m.shown)) (h11 : H un = some (.lst (us.map V.ref)))
    (h12 : Paired (fun (u : Addr) (p : Int × V) => H u = some (.tup [.int p.1, p.2])) us m.wait) (e1 : m'.sure = m.sure) (e2 : m'.shown = m.shown) (e3 : m'.wait = m.wait) : DevIn C H0 H' d m' := by
  have k : ∀ {x : Addr} {xs : List V}, H x = some (.lst xs) → H' x = some (.lst xs) := fun hx => at_keep e hx h1 (by intro z; cases z)
  exact ⟨Same.old s0 n0 e, n0, dx, fs', su, sh, un, us, Sg.at_new e, h2, h3, h4, h5, h6, h7, h8, by rw [e1]; exact k h9, by rw [e2]; exact k h10, k h11, by rw [e3]; exact pairs_keeps (Keeps.upd h1 insNF e) h12⟩
theorem ok_Device__takes_place (T : Txt K mg) : FnOk P w K mg base CX0 1 T.a_Device__takes_place T.fd_Device__takes_place ["self"] (sp_takes T.A_Device) := by
  refine T.F_Device__takes_place.ok sc_Device__takes_place (fun vs H Q E h => ?_) (fun cdv A outer s H vs Q E hr h => ?_)
  · obtain ⟨H0, d, m, rfl, _⟩ := h
    rfl
  · refine ⟨_, (C8.pss_cut (ps_if (pt_cmpR op_eq (pe_fld (pv 0) rfl) pe_int (nomark _))
       (pss_one (ps_fld (pv 0) pe_bl rfl))
       (pss_one (ps_if (pt_cmp (pc_notN (pe_fld (pv 0) rfl)) rfl)
       (pss_one (ps_fldaug (pv 0) pe_int in_sub))
       pss_nil)))
       (pss_one (ps_ret (pe_not (pe_fld (pv 0) rfl))))), ?_⟩
    try dsimp only [cxOf, Cx.nox, Cx.wish]
    obtain ⟨H0, d, m, rfl, ⟨s0, n0, dx, fs, su, sh, un, us, h1, h2, h3, h4, h5, h6, h7, h8, h9, h10, h11, h12⟩, q⟩ := h
    have cl := T.cl_Device
    have na1 := T.na_Device__commands_left
    have na2 := T.na_Device__power_is_off
    obtain ⟨few, lkl, lks, lkh, lku, lkc, lko, _⟩ := id h2
    walk_at "rd"
    refine r_cut (fun σ' H' => σ' = [some (.ref d)] ∧ DevIn T.A_Device H0 H' d (takeF m) ∧ Keeps H H') ?_ ?_
    · walk_at "rd"
      have base : takeF m = m → DevIn T.A_Device H0 H d (takeF m) := fun e => by
        rw [e]
        exact ⟨s0, n0, dx, fs, su, sh, un, us, h1, h2, h3, h4, h5, h6, h7, h8, h9, h10, h11, h12⟩
      cases hl : m.left with
      | none =>
        rw [hl] at lkc
        have lkc : fs.lookup ("_commands_left" : Str) = some .non := lkc
        show rEq .non (.int 0) H _
        refine r_eq rfl ?_
        walk_at "rd"
        exact ⟨rfl, base (by unfold takeF; rw [hl]), Keeps.refl H⟩
      | some n =>
        rw [hl] at lkc
        have lkc : fs.lookup ("_commands_left" : Str) = some (.int n) := lkc
        show rEq (.int n) (.int 0) H _
        walk_at "rd"
        refine r_ite (fun h0 => ?_) (fun h0 => ?_)
        · walk_at "rd"
          rename_i H' e _
          refine ⟨rfl, ?_, Keeps.upd h1 insNF e⟩
          have em : takeF m = { m with off := true } := by unfold takeF; rw [hl]; exact if_pos h0
          rw [em]
          exact DevIn.setd (m := m) s0 n0 h1 e (h2.off' true) h3 h4 h5 h6 h7 h8 h9 h10 h11 h12 rfl rfl rfl
        · walk_at "rd"
          refine ⟨_, rfl, d, _, dx, fs, _, rfl, h1, cl, na1, lkc, ?_⟩
          refine ⟨_, _, rfl, rfl, dx, fs, h1, by omega, ?_⟩
          have em : takeF m = { m with left := some (n - 1) } := by unfold takeF; rw [hl]; exact if_neg h0
          refine ⟨rfl, ?_, Keeps.upd h1 insNF rfl⟩
          rw [em]
          exact DevIn.setd (m := m) s0 n0 h1 rfl (h2.left' (some (n - 1))) h3 h4 h5 h6 h7 h8 h9 h10 h11 h12 rfl rfl rfl
    · rintro _ H' ⟨rfl, hD, hK⟩
      obtain ⟨s0', n0', dx', fs', su', sh', un', us', h1', h2', _⟩ := id hD
      have lko' := h2'.off
      walk_at "rd"
      exact q _ hD hK
def readF (m : DevM) (a : Int) : V := if 0 ≤ a ∧ a < m.shown.length then m.shown.getD a.toNat .non else .non
def sp_read (C : Addr) : Sp := fun vs H Q _ => ∃ (H0 : Hp) (d : Addr) (m : DevM) (a : Int), vs = [.ref d, .int a] ∧ DevIn C H0 H d m ∧ Q (readF m a) H
theorem at_vals {xs : List V} {k : Int} (h0 : 0 ≤ k) (h1 : k < xs.length) : atI xs k = some (xs.getD k.toNat .non) := by
  obtain ⟨n, rfl⟩ := Int.eq_ofNat_of_zero_le h0
  have hn : n < xs.length := by omega
  refine atI_nat ?_
  rw [List.getElem?_eq_getElem hn, List.getD_eq_getElem?_getD, Int.toNat_natCast, List.getElem?_eq_getElem hn]
  rfl
theorem ok_Device_read (T : Txt K mg) : FnOk P w K mg base CX0 1 T.a_Device_read T.fd_Device_read ["self", "address"] (sp_read T.A_Device) := by
  refine T.F_Device_read.ok sc_Device_read (fun vs H Q E h => ?_) (fun cdv A outer s H vs Q E hr h => ?_)
  · obtain ⟨H0, d, m, a, rfl, _⟩ := h
    rfl
  · refine ⟨_, (pss_cons (ps_if (pt_not (pt_chain op_le op_lt pe_int (pv 1) (pe_callB (c_len) (by rfl) T.n_len (by decide +kernel) (pa_cons (pe_fld (pv 0) rfl) pa_nil))))
       (pss_one (ps_ret pe_non))
       pss_nil)
       (pss_one (ps_ret (pe_ix ix_list (pe_fld (pv 0) rfl) (pv 1) (fun _ _ => rfl))))), ?_⟩
    try dsimp only [cxOf, Cx.nox, Cx.wish]
    obtain ⟨H0, d, m, a, rfl, ⟨s0, n0, dx, fs, su, sh, un, us, h1, h2, h3, h4, h5, h6, h7, h8, h9, h10, h11, h12⟩, q⟩ := h
    have cl := T.cl_Device
    have na1 := T.na_Device__shown
    obtain ⟨few, lkl, lks, lkh, lku, lkc, lko, _⟩ := id h2
    by_cases ha : 0 ≤ a ∧ a < m.shown.length
    · obtain ⟨a0, a1⟩ := ha
      walk_at "rdo"
      refine r_ixl (by walk_at "hp") (at_vals a0 a1) ?_
      rw [readF, if_pos ⟨a0, a1⟩] at q
      exact q
    · rw [readF, if_neg ha] at q
      walk_at "rd"
      refine r_ite (fun h0 => ?_) (fun h0 => ?_)
      · walk_at "rdo"
        exact q
      · walk_at "rdo"
        exact q
def writeF (m : DevM) (a : Int) (v : V) : DevM :=
  { takeF m with wait := if (takeF m).off then m.wait else m.wait ++ [(a, v)], shown := putB m.shown a v }
def sp_write (C : Addr) : Sp := fun vs H Q _ => ∃ (H0 : Hp) (d : Addr) (m : DevM) (a : Int) (v : V), vs = [.ref d, .int a, v] ∧ DevIn C H0 H d m ∧ m.wait.length ≤ 100000 ∧ ∀ H', DevIn C H0 H' d (writeF m a v) → Keeps H H' → Q .non H'
theorem ok_Device_write (T : Txt K mg) : FnOk P w K mg base CX0 2 T.a_Device_write T.fd_Device_write ["self", "address", "block"] (sp_write T.A_Device) := by
  refine T.F_Device_write.ok sc_Device_write (fun vs H Q E h => ?_) (fun cdv A outer s H vs Q E hr h => ?_)
  · obtain ⟨H0, d, m, a, v, rfl, _⟩ := h
    rfl
  · refine ⟨_, (C8.pss_cut (ps_if (pt_val (pe_meth0 (pv 0) T.cl_Device T.me_Device__takes_place (ok_Device__takes_place T) (hr.mono (by decide)) T.b_Device__takes_place .nil pass0))
       (pss_one (ps_expr (pe_bm PySem.F.plainAttrs_list PySem.F.slot_list_append PySem.F.type_list_append mt_append (pe_fld (pv 0) rfl) (pa_cons (pe_tup (pa_cons (pv 1) (pa_cons (pv 2) pa_nil))) pa_nil))))
       pss_nil)
       (pss_one (ps_expr (pe_call (ok_put_block T) (hr.mono (by decide)) rfl T.m_put_block T.F_put_block.kp T.b_put_block .nil pass0 (pa_cons (pe_fld (pv 0) rfl) (pa_cons (pv 1) (pa_cons (pv 2) pa_nil))))))), ?_⟩
    try dsimp only [cxOf, Cx.nox, Cx.wish]
    obtain ⟨H0, d, m, a, v, rfl, hD, hw, q⟩ := h
    have cl := T.cl_Device
    have na1 := T.na_Device__shown
    have na2 := T.na_Device__unsure
    obtain ⟨s0, n0, dx, fs, su, sh, un, us, h1, h2, _⟩ := id hD
    have nT := h2.nT
    walk_at "rd"
    refine r_cut (fun σ' H' => σ' = [some (.ref d), some (.int a), some v] ∧ DevIn T.A_Device H0 H' d { takeF m with wait := if (takeF m).off then m.wait else m.wait ++ [(a, v)] } ∧ Keeps H H') ?_ ?_
    · walk_at "rd"
      refine ⟨H0, d, m, rfl, hD, fun H1 hD1 hK1 => ?_⟩
      obtain ⟨t1, t2, t3, t4⟩ := takeF_lists m
      generalize takeF m = m1 at hD1 t1 t2 t3 t4
      walk_at "rd"
      refine to_ite (fun hb => ?_) (fun hb => ?_)
      · have ho : m1.off = false := by simpa using hb
        obtain ⟨s0', n0', dx', fs', su', sh', un', us', h1', h2', h3', h4', h5', h6', h7', h8', h9', h10', h11', h12'⟩ := id hD1
        have lku := h2'.uns
        walk_at "rd"
        rename_i tp ntp H2 s2 htp
        have hl' : us'.length ≤ 100000 := by rw [Paired.length h12', t3]; exact hw
        refine r_app (by walk_at "hp") (by rw [List.length_map, sz]; omega) ?_
        generalize hH : upd _ _ _ = H3
        refine ⟨rfl, ⟨Same.old (s0'.trans s2) h5' hH, n0', dx', fs', su', sh', un', us' ++ [tp], at_keep hH (s2 _ _ h1') (s2 _ _ h11') (by intro z; cases z), h2'.to rfl rfl rfl, h3', h4', h5', h6', h7', h8', ?_, ?_, ?_, ?_⟩, (hK1.trans (Keeps.of s2)).trans (Keeps.upd (s2 _ _ h11') lstNF hH)⟩
        · rw [← hH, upd_ne h7']
          exact s2 _ _ h9'
        · rw [← hH, upd_ne h8']
          exact s2 _ _ h10'
        · rw [← hH, upd_same, List.map_append]
          rfl
        · rw [ho, if_neg (by decide), ← t3]
          exact paired_snoc (pairs_keeps ((Keeps.of s2).trans (Keeps.upd (s2 _ _ h11') lstNF hH)) h12') (by rw [← hH, upd_ne (ne_of htp (s2 _ _ h11') (by intro z; cases z))]; exact htp)
      · have ho : m1.off = true := by simpa using hb
        refine ⟨rfl, ?_, hK1⟩
        rw [ho, if_pos rfl, ← t3]
        exact hD1
    · rintro _ H' ⟨rfl, hD', hK⟩
      obtain ⟨t1, t2, t3, t4⟩ := takeF_lists m
      obtain ⟨s0', n0', dx', fs', su', sh', un', us', h1', h2', h3', h4', h5', h6', h7', h8', h9', h10', h11', h12'⟩ := id hD'
      have lks := h2'.shown
      walk_at "rd"
      refine ⟨sh', a, v, _, rfl, h10', fun H2 hH => ?_⟩
      have kp : Keeps H' H2 := Keeps.upd h10' lstNF hH
      refine q _ ⟨Same.old s0' h4' hH, n0', dx', fs', su', sh', un', us', at_keep hH h1' h10' (by intro z; cases z), h2'.to rfl rfl rfl, h3', h4', h5', h6', h7', h8', ?_, ?_, ?_, pairs_keeps kp h12'⟩ (hK.trans kp)
      · rw [← hH, upd_ne h6']
        exact h9'
      · rw [← hH, upd_same]
        show some (HO.lst (putB (takeF m).shown a v)) = some (HO.lst (putB m.shown a v))
        rw [t2]
      · rw [← hH, upd_ne h8'.symm]
        exact h11'
def barrierF (m : DevM) : DevM := if (takeF m).off then takeF m else { takeF m with sure := m.wait.foldl (fun xs p => putB xs p.1 p.2) m.sure, wait := [] }
def sp_barrier (C : Addr) : Sp := fun vs H Q _ => ∃ (H0 : Hp) (d : Addr) (m : DevM), vs = [.ref d] ∧ DevIn C H0 H d m ∧ ∀ H', DevIn C H0 H' d (barrierF m) → Keeps H H' → Q .non H'
theorem ok_Device_barrier (T : Txt K mg) : FnOk P w K mg base CX0 2 T.a_Device_barrier T.fd_Device_barrier ["self"] (sp_barrier T.A_Device) := by
  refine T.F_Device_barrier.ok sc_Device_barrier (fun vs H Q E h => ?_) (fun cdv A outer s H vs Q E hr h => ?_)
  · obtain ⟨H0, d, m, rfl, _⟩ := h
    rfl
  · refine ⟨_, (pss_one (ps_if (pt_val (pe_meth0 (pv 0) T.cl_Device T.me_Device__takes_place (ok_Device__takes_place T) (hr.mono (by decide)) T.b_Device__takes_place .nil pass0))
       (pss_cons (ps_for PassesOwn.never rfl (pi_list (pe_fld (pv 0) rfl)) (pg_tup (by rfl) (pgs_cons (pg_name (i := 1) sc_Device_barrier.nd rfl (Or.inl rfl)) (pgs_cons (pg_name (i := 2) sc_Device_barrier.nd rfl (Or.inl rfl)) pgs_nil)))
       (pss_one (ps_expr (pe_call (ok_put_block T) (hr.mono (by decide)) rfl T.m_put_block T.F_put_block.kp T.b_put_block .nil pass0 (pa_cons (pe_fld (pv 0) rfl) (pa_cons (pv 1) (pa_cons (pv 2) pa_nil)))))))
       (pss_one (ps_fld (pv 0) (pe_lst pa_nil) rfl)))
       pss_nil)), ?_⟩
    try dsimp only [cxOf, Cx.nox, Cx.wish]
    obtain ⟨H0, d, m, rfl, hD, q⟩ := h
    have cl := T.cl_Device
    have na1 := T.na_Device__sure
    have na2 := T.na_Device__unsure
    obtain ⟨s0, n0, dx, fs, su, sh, un, us, h1, h2, _⟩ := id hD
    have nT := h2.nT
    walk_at "rd"
    refine ⟨H0, d, m, rfl, hD, fun H1 hD1 hK1 => ?_⟩
    obtain ⟨t1, t2, t3, t4⟩ := takeF_lists m
    unfold barrierF at q
    generalize takeF m = m1 at hD1 t1 t2 t3 t4 q
    walk_at "rd"
    refine to_ite (fun hb => ?_) (fun hb => ?_)
    · have ho : m1.off = false := by simpa using hb
      rw [ho, if_neg (by decide)] at q
      obtain ⟨s0', n0', dx', fs', su', sh', un', us', h1', h2', h3', h4', h5', h6', h7', h8', h9', h10', h11', h12'⟩ := id hD1
      have lku := h2'.uns
      have lks := h2'.sure
      have few := h2'.few
      walk_at "rd"
      refine r_forL (xs := us'.map V.ref) (fun i σ' H' => ∃ v1 v2 : Option V, σ' = [some (.ref d), v1, v2] ∧ DevIn T.A_Device H0 H' d { m1 with sure := (m1.wait.take i).foldl (fun xs p => putB xs p.1 p.2) m1.sure } ∧ Keeps H1 H' ∧ H' d = some (.ins T.A_Device dx' fs') ∧ H' un' = some (.lst (us'.map V.ref)) ∧ H' su' = some (.lst ((m1.wait.take i).foldl (fun xs p => putB xs p.1 p.2) m1.sure)) ∧ H' sh' = some (.lst m1.shown)) ?_ ?_ ?_ ?_
      · exact ⟨_, _, rfl, hD1, Keeps.refl _, h1', h11', h9', h10'⟩
      · rintro i σ' H' _ ⟨v1, v2, rfl, _, _, _, hu, _⟩
        exact .of hu
      · rintro i x σ' H' hx ⟨v1, v2, rfl, hD2, hK2, hd2, hu2, hs2, hh2⟩
        rw [List.getElem?_map] at hx
        obtain ⟨u, hu, rfl⟩ := Option.map_eq_some_iff.mp hx
        obtain ⟨p, ep, hp⟩ := paired_at h12' hu
        have hp2 : SqT K H' u [.int p.1, p.2] := .of (hK2 _ _ trivial hp)
        walk_at "rd"
        refine ⟨su', p.1, p.2, _, rfl, hs2, fun H3 hH => ?_⟩
        have kp : Keeps H' H3 := Keeps.upd hs2 lstNF hH
        have et : (m1.wait.take (i + 1)).foldl (fun xs p => putB xs p.1 p.2) m1.sure = putB ((m1.wait.take i).foldl (fun xs p => putB xs p.1 p.2) m1.sure) p.1 p.2 := by
          rw [List.take_add_one, ep, List.foldl_append]
          rfl
        have e1 : H3 d = some (.ins T.A_Device dx' fs') := at_keep hH hd2 hs2 (by intro z; cases z)
        have e2 : H3 un' = some (.lst (us'.map V.ref)) := by rw [← hH, upd_ne h7'.symm]; exact hu2
        have e3 : H3 sh' = some (.lst m1.shown) := by rw [← hH, upd_ne h6'.symm]; exact hh2
        have e4 : H3 su' = some (.lst (putB ((m1.wait.take i).foldl (fun xs p => putB xs p.1 p.2) m1.sure) p.1 p.2)) := by rw [← hH, upd_same]
        rw [et]
        refine ⟨_, _, rfl, ⟨Same.old hD2.same h3' hH, n0', dx', fs', su', sh', un', us', e1, h2'.to rfl rfl rfl, h3', h4', h5', h6', h7', h8', e4, e3, e2, pairs_keeps (hK2.trans kp) h12'⟩, hK2.trans kp, e1, e2, e4, e3⟩
      · rintro σ' H' ⟨v1, v2, rfl, hD2, hK2, hd2, hu2, hs2, hh2⟩
        rw [List.length_map, Paired.length h12', List.take_length] at hs2
        walk_at "rd"
        rename_i nl nnl H3 s3 hnl H4 hH _
        have kp : Keeps H' H4 := (Keeps.of s3).trans (Keeps.upd (s3 _ _ hd2) insNF hH)
        have en : nl ≠ d := fun e => by rw [e, hd2] at nnl; cases nnl
        have eu : nl ≠ su' := fun e => by rw [e, hs2] at nnl; cases nnl
        have eh : nl ≠ sh' := fun e => by rw [e, hh2] at nnl; cases nnl
        refine q _ ⟨Same.old (hD2.same.trans s3) n0' hH, n0', dx', _, su', sh', nl, [], Sg.at_new hH, ?_, h3', h4', hD2.same.free nnl, h6', eu.symm, eh.symm, ?_, ?_, ?_, .nil⟩ (hK1.trans (hK2.trans kp))
        · exact (h2'.uns' nl []).to rfl rfl rfl
        · refine at_keep hH (s3 _ _ ?_) (s3 _ _ hd2) (by intro z; cases z)
          rw [hs2, t3, t1]
        · refine at_keep hH (s3 _ _ ?_) (s3 _ _ hd2) (by intro z; cases z)
          exact hh2
        · exact at_keep hH hnl (s3 _ _ hd2) (by intro z; cases z)
    · have ho : m1.off = true := by simpa using hb
      rw [ho, if_pos rfl] at q
      walk_at "rd"
      exact q _ hD1 hK1

def cutF (m : DevM) (n : Int) : DevM := if m.off then m else { m with left := some n }
def sp_cut_after (C : Addr) : Sp := fun vs H Q _ => ∃ (H0 : Hp) (d : Addr) (m : DevM) (n : Int), vs = [.ref d, .int n] ∧ DevIn C H0 H d m ∧ ∀ H', DevIn C H0 H' d (cutF m n) → Keeps H H' → Q .non H'
/-! ### a device is made -/
theorem rep_non (n : Nat) : (List.replicate n [V.non]).flatten = List.replicate n V.non := by
  induction n with
  | zero => rfl
  | succ n ih => rw [List.replicate_succ, List.flatten_cons, ih, List.replicate_succ]; rfl
def newM (lay : Addr) (xs : List V) : DevM := ⟨lay, xs, xs, [], none, false⟩
def sp_dev_init (K : PySem.W.Frag) (C CL : Addr) : Sp := fun vs H Q _ => ∃ (H0 : Hp) (d dx lay : Addr) (L : Lay) (b : V) (xs : List V), vs = [.ref d, .ref lay, b] ∧ H d = some (.ins C dx []) ∧ Same H0 H ∧ H0 d = none ∧ LayAt CL L H lay ∧
  ((b = .non ∧ 0 ≤ L.dev ∧ L.dev ≤ 100000 ∧ xs = List.replicate L.dev.toNat V.non) ∨ ∃ l, b = .ref l ∧ SqL K H l xs) ∧ ∀ H', DevIn C H0 H' d (newM lay xs) → Keeps H H' → Q .non H'
theorem ok_Device___init (T : Txt K mg) : FnOk P w K mg base CX0 1 T.a_Device___init T.fd_Device___init ["self", "layout", "blocks"] (sp_dev_init K T.A_Device T.A_Layout) := by
  refine T.F_Device___init.ok (CX := CX0) sc_Device___init (fun vs H Q E h => ?_) (fun cdv A outer s H vs Q E hr h => ?_)
  · obtain ⟨H0, d, dx, lay, L, b, xs, rfl, _⟩ := h
    rfl
  · refine ⟨_, (C8.pss_cut (ps_if (pt_cmp (pc_isN (pv 2)) rfl)
       (pss_one (ps_set (i := 2) sc_Device___init.nd rfl (Or.inl rfl) (pe_op op_rep (pe_lst (pa_cons pe_non pa_nil)) (pe_fld (pv 1) rfl))))
       pss_nil)
       (pss_cons (ps_fld (pv 0) (pv 1) rfl)
       (pss_cons (ps_fld (pv 0) (pe_callTy c_list (by rfl) T.n_list (by decide +kernel) (pa_cons (pv 2) pa_nil)) rfl)
       (pss_cons (ps_fld (pv 0) (pe_callTy c_list (by rfl) T.n_list (by decide +kernel) (pa_cons (pv 2) pa_nil)) rfl)
       (pss_cons (ps_fld (pv 0) (pe_lst pa_nil) rfl)
       (pss_cons (ps_fld (pv 0) pe_non rfl)
       (pss_one (ps_fld (pv 0) pe_bl rfl)))))))), ?_⟩
    try dsimp only [cxOf, Cx.nox, Cx.wish]
    obtain ⟨H0, d, dx, lay, L, b, xs, rfl, hd, s0, n0, ⟨ldx, lfs, hlay, hL⟩, hb, q⟩ := h
    have clL := T.cl_Layout
    have naL := T.na_Layout_device_blocks
    have lkL := hL.dev
    have cl := T.cl_Device
    have na1 := T.na_Device_layout
    have na2 := T.na_Device__sure
    have na3 := T.na_Device__shown
    have na4 := T.na_Device__unsure
    have na5 := T.na_Device__commands_left
    have na6 := T.na_Device__power_is_off
    walk_at "rd"
    refine r_cut (fun σ' H' => ∃ l, σ' = [some (.ref d), some (.ref lay), some (.ref l)] ∧ Same H H' ∧ SqL K H' l xs) ?_ ?_
    · rcases hb with ⟨rfl, d0, d1, rfl⟩ | ⟨l, rfl, hl⟩
      · walk_at "rd"
        exact ⟨_, rfl, by walk_at "sm", by walk_at "hp"⟩
      · walk_at "rd"
        exact ⟨l, rfl, Same.refl _, hl⟩
    · rintro _ H1 ⟨l, rfl, s1, hl⟩
      have hd1 : H1 d = some (.ins T.A_Device dx []) := s1 _ _ hd
      walk_at "rd"
      rename_i H2 e2 h2
      refine r_listl (SqL.keep hl hd1 e2) ?_
      walk_at "al"
      walk_at "rd"
      rename_i su nsu H3 s3 hsu H4 e4 h4
      have hd3 := s3 _ _ h2
      refine r_listl (SqL.keep (s3.seq (SqL.keep hl hd1 e2)) hd3 e4) ?_
      walk_at "al"
      walk_at "rd"
      rename_i sh nsh H5 s5 hsh H6 e6 h6 un nun H7 s7 hun H8 e8 h8 H9 e9 h9 H10 e10 h10
      have b1 : Same H0 H2 := Same.old (s0.trans s1) n0 e2
      have b3 : Same H0 H4 := Same.old (b1.trans s3) n0 e4
      have b5 : Same H0 H6 := Same.old (b3.trans s5) n0 e6
      have b7 : Same H0 H8 := Same.old (b5.trans s7) n0 e8
      have b9 : Same H0 H10 := Same.old (Same.old b7 n0 e9) n0 e10
      have l4 : ∀ {x : Addr} {ys : List V}, H3 x = some (.lst ys) → H4 x = some (.lst ys) := fun h => at_keep e4 h hd3 (by intro z; cases z)
      have l6 : ∀ {x : Addr} {ys : List V}, H5 x = some (.lst ys) → H6 x = some (.lst ys) := fun h => at_keep e6 h (s5 _ _ h4) (by intro z; cases z)
      have l8 : ∀ {x : Addr} {ys : List V}, H7 x = some (.lst ys) → H8 x = some (.lst ys) := fun h => at_keep e8 h (s7 _ _ h6) (by intro z; cases z)
      have l9 : ∀ {x : Addr} {ys : List V}, H8 x = some (.lst ys) → H10 x = some (.lst ys) := fun h => at_keep e10 (at_keep e9 h h8 (by intro z; cases z)) h9 (by intro z; cases z)
      have c4 := l4 hsu
      have c6 := l6 (s5 _ _ c4)
      have c8 := l8 (s7 _ _ c6)
      have d6 := l6 hsh
      have d8 := l8 (s7 _ _ d6)
      have e8' := l8 hun
      have k2 : Keeps H1 H2 := Keeps.upd hd1 insNF e2
      have k4 : Keeps H2 H4 := (Keeps.of s3).trans (Keeps.upd hd3 insNF e4)
      have k6 : Keeps H4 H6 := (Keeps.of s5).trans (Keeps.upd (s5 _ _ h4) insNF e6)
      have k8 : Keeps H6 H8 := (Keeps.of s7).trans (Keeps.upd (s7 _ _ h6) insNF e8)
      have k10 : Keeps H8 H10 := (Keeps.upd h8 insNF e9).trans (Keeps.upd h9 insNF e10)
      refine q _ ⟨b9, n0, dx, _, su, sh, un, [], h10, ⟨Sg.putF_len (Sg.putF_len (Sg.putF_len (Sg.putF_len (Sg.putF_len (Sg.putF_len (Nat.zero_le _)))))), by walk_at "lk", by walk_at "lk", by walk_at "lk", by walk_at "lk", by walk_at "lk", by walk_at "lk", by walk_at "lk", by walk_at "lk", by walk_at "lk", by walk_at "lk", by walk_at "lk", by walk_at "lk", by walk_at "lk", by walk_at "lk", by walk_at "lk", by walk_at "lk", by walk_at "lk"⟩,
        b1.free nsu, b3.free nsh, b5.free nun, fun e => ?_, fun e => ?_, fun e => ?_, l9 c8, l9 d8, l9 e8', .nil⟩ ((Keeps.of s1).trans (k2.trans (k4.trans (k6.trans (k8.trans k10)))))
      · rw [← e, c4] at nsh
        cases nsh
      · rw [← e, c6] at nun
        cases nun
      · rw [← e, d6] at nun
        cases nun

/-! ### a device is made, written: walking rules -/
theorem made_same2 {H : Hp} {x dx : Addr} {o o' : HO} (nx : H x = none) (nd : H dx = none) : Same H (upd (upd H dx o) x o') := fun b u e => by
  rw [upd_ne (ne_of_none e nx), upd_ne (ne_of_none e nd)]
  exact e
theorem i_devnewL {K : PySem.W.Frag} {C CL : Addr} {H : Hp} {Q : Addr → Hp → Prop} {E : XK} {vs dvs : List V} {lay l : Addr} {L : Lay} {xs : List V} (ev : vs ++ dvs = [.ref lay, .ref l]) (hL : LayAt CL L H lay) (hl : SqL K H l xs) (q : ∀ d H', DevIn C H H' d (newM lay xs) → Q d H') :
    ∀ x dx, H x = none → H dx = none → dx ≠ x → sp_dev_init K C CL (.ref x :: (vs ++ dvs)) (upd (upd H dx (.own x)) x (.ins C dx [])) (fun v H2 => v = .non ∧ Q x H2) E := fun x dx nx nd _ => by
  rw [ev]
  exact ⟨H, x, dx, lay, L, .ref l, xs, rfl, upd_same, made_same2 nx nd, nx, hL.mono (made_same2 nx nd), .inr ⟨l, rfl, (made_same2 nx nd).seq hl⟩, fun H' hD _ => ⟨rfl, q x H' hD⟩⟩
theorem i_devnewN {K : PySem.W.Frag} {C CL : Addr} {H : Hp} {Q : Addr → Hp → Prop} {E : XK} {vs dvs : List V} {lay : Addr} {L : Lay} (ev : vs ++ dvs = [.ref lay, .non]) (hL : LayAt CL L H lay) (d0 : 0 ≤ L.dev) (d1 : L.dev ≤ 100000) (q : ∀ d H', DevIn C H H' d (newM lay (List.replicate L.dev.toNat V.non)) → Q d H') :
    ∀ x dx, H x = none → H dx = none → dx ≠ x → sp_dev_init K C CL (.ref x :: (vs ++ dvs)) (upd (upd H dx (.own x)) x (.ins C dx [])) (fun v H2 => v = .non ∧ Q x H2) E := fun x dx nx nd _ => by
  rw [ev]
  exact ⟨H, x, dx, lay, L, .non, _, rfl, upd_same, made_same2 nx nd, nx, hL.mono (made_same2 nx nd), .inl ⟨rfl, d0, d1, rfl⟩, fun H' hD _ => ⟨rfl, q x H' hD⟩⟩
local macro_rules | `(tactic| walk_at "ca1") => `(tactic| with_reducible (refine' Sg.i_devnewL ?ev ?hL ?hl ?_; (case ev => (with_unfolding_all rfl)); (case hL => (with_unfolding_all walk_at "pr")); (case hl => (with_unfolding_all walk_at "pr")); intros))
local macro_rules | `(tactic| walk_at "ca1") => `(tactic| with_reducible (refine' Sg.i_devnewN ?ev ?hL ?d0 ?d1 ?_; (case ev => (with_unfolding_all rfl)); (case hL => (with_unfolding_all walk_at "pr")); (case d0 => omega); (case d1 => omega); intros))

local macro_rules | `(tactic| walk_at "rx1") => `(tactic| with_reducible (first | refine' Sg.r_prop ?_ | (refine' Sg.r_kprop ?h ?_; (case h => (with_unfolding_all walk_at "hp"))) | refine' Sg.r_irev ?_ | (refine' Sg.r_kIv ?h ?_; (case h => (with_unfolding_all walk_at "hp"))) | refine' Sg.r_makeN ?_ | refine' Sg.r_callN ?_ | refine' Sg.r_makeSD ?_ | refine' Sg.r_callSD ?_ | refine' Sg.r_methSD ?_ | (refine' Sg.r_kmethSD ?h ?hl ?_; (case h => (with_unfolding_all walk_at "hp")); (case hl => (with_unfolding_all walk_at "lk"))) | refine' Sg.r_tryA ?_ | refine' Sg.r_din ?_ | refine' Sg.r_kdi ?_ | (refine' Sg.r_kdi2 ?h ?_; (case h => (with_unfolding_all walk_at "hp"))) | (refine' Sg.r_kdi2f ?h ?_; (case h => assumption)) | refine' Sg.r_dnotin ?_ | refine' Sg.r_kdn ?_ | (refine' Sg.r_kdn2 ?h ?_; (case h => (with_unfolding_all walk_at "hp"))) | refine' Sg.r_dget ?_ | refine' Sg.r_kdg ?_ | refine' Sg.r_dget1 ?_ | (refine' Sg.r_kdt ?h ?_; (case h => (with_unfolding_all walk_at "hp"))) | (refine' Sg.r_kdt2 ?h ?_; (case h => (with_unfolding_all walk_at "hp"))) | refine' Sg.r_dput ?_ | refine' Sg.r_kdp ?_ | refine' Sg.r_kdp2 ?_ | (refine' Sg.r_kdp3 ?h ?hl ?_; (case h => (with_unfolding_all walk_at "hp")); (case hl => (with_unfolding_all walk_at "side")); (with_unfolding_all walk_at "up")) | refine' Sg.r_ddel ?_ | refine' Sg.r_kdd ?_ | refine' Sg.r_dpop1 ?_ | (refine' Sg.r_kdo ?h ?_; (case h => (with_unfolding_all walk_at "hp"))) | refine' Sg.r_ikeys ?_ | (refine' Sg.r_kIk ?h ?_; (case h => assumption)) | (refine' Sg.r_dnew ?_; (with_unfolding_all walk_at "al")) | (refine' Sg.r_lenD ?h ?_; (case h => (with_unfolding_all walk_at "hp"))) | (refine' Sg.r_dictD ?h ?_; (case h => (with_unfolding_all walk_at "hp")); (with_unfolding_all walk_at "al"))))
local macro_rules | `(tactic| walk_at "rx") => `(tactic| repeat (first | walk_at "rd1" | walk_at "rx1"))
/-! ### dicts with int keys: readings by name -/
def kDI2 (y : V) (Q : V → Hp → Prop) : V → Hp → Prop := fun x H2 => ∃ a o, x = .ref a ∧ DGet H2 a y o ∧ Q (.bl o.isSome) H2
def kDI (td : TE) (σ : L2.St) (Q : V → Hp → Prop) : V → Hp → Prop := fun y H1 => td σ H1 (kDI2 y Q)
def kDN2 (y : V) (Q : V → Hp → Prop) : V → Hp → Prop := fun x H2 => ∃ a o, x = .ref a ∧ DGet H2 a y o ∧ Q (.bl (!o.isSome)) H2
def kDN (td : TE) (σ : L2.St) (Q : V → Hp → Prop) : V → Hp → Prop := fun y H1 => td σ H1 (kDN2 y Q)
def kDG2 (x : V) (Q : V → Hp → Prop) : V → Hp → Prop := fun y H2 => ∃ a v, x = .ref a ∧ DGet H2 a y (some v) ∧ Q v H2
def kDG (ty : TE) (σ : L2.St) (Q : V → Hp → Prop) : V → Hp → Prop := fun x H1 => ty σ H1 (kDG2 x Q)
def kDT2 (a : Addr) (Q : V → Hp → Prop) : V → Hp → Prop := fun y H2 => ∃ o, DGet H2 a y o ∧ Q (o.getD .non) H2
def kDT (ty : TE) (σ : L2.St) (Q : V → Hp → Prop) : V → Hp → Prop := fun x H1 => ∃ a, x = .ref a ∧ IsD H1 a ∧ ty σ H1 (kDT2 a Q)
def kDP3 (D : Ends) (σ : L2.St) (v x : V) : V → Hp → Prop := fun y H3 => ∃ a H4, x = .ref a ∧ DPut H3 a y v H4 ∧ D.nx σ H4
def kDP2 (D : Ends) (σ : L2.St) (ty : TE) (v : V) : V → Hp → Prop := fun x H2 => ty σ H2 (kDP3 D σ v x)
def kDP (D : Ends) (σ : L2.St) (td ty : TE) : V → Hp → Prop := fun v H1 => td σ H1 (kDP2 D σ ty v)
def kDD2 (D : Ends) (σ : L2.St) (x : V) : V → Hp → Prop := fun y H2 => ∃ a kvs k, x = .ref a ∧ H2 a = some (.dK kvs) ∧ y = kV k ∧ (valV kvs k).isSome = true ∧ D.nx σ (upd H2 a (.dK (dropK kvs k)))
def kDD (D : Ends) (σ : L2.St) (ty : TE) : V → Hp → Prop := fun x H1 => ty σ H1 (kDD2 D σ x)
def kDO2 (a : Addr) (Q : V → Hp → Prop) : V → Hp → Prop := fun y H2 => ∃ kvs k v, H2 a = some (.dK kvs) ∧ y = kV k ∧ valV kvs k = some v ∧ Q v (upd H2 a (.dK (dropK kvs k)))
def kDO (ty : TE) (σ : L2.St) (Q : V → Hp → Prop) : V → Hp → Prop := fun x H1 => ∃ a, x = .ref a ∧ IsD H1 a ∧ ty σ H1 (kDO2 a Q)
def kIk (R : It → Hp → Prop) : V → Hp → Prop := fun x H1 => ∃ d o, x = .ref d ∧ ((∃ kvs, H1 d = some (.frz o (.dK kvs)) ∧ R (Itk d o kvs) H1) ∨ ∃ kvs, H1 d = some (.frz o (.dT kvs)) ∧ R (Itkt d o kvs) H1)
def rLenD : List V → Hp → (V → Hp → Prop) → Prop := fun xs H Q => ∃ a kvs, xs = [V.ref a] ∧ H a = some (.dK kvs) ∧ Q (.int kvs.length) H
def rDictD : List V → Hp → (V → Hp → Prop) → Prop := fun xs H Q => ∃ (a : Addr) (kvs : List (Key × V)), xs = [.ref a] ∧ Rd H a (.dK kvs) ∧ ∀ p, H p = none → Q (.ref p) (upd H p (.dK kvs))
section
variable {σ : L2.St} {H : Hp} {D : Ends} {td ty tv : TE} {Q : V → Hp → Prop} {a : Addr} {kvs : List (Key × V)} {i : Int} {v y : V} {R : It → Hp → Prop} {o : Obj}
theorem r_din (h : ty σ H (kDI td σ Q)) : tDIn ty td σ H Q := h
theorem r_kdi (h : td σ H (kDI2 y Q)) : kDI td σ Q y H := h
theorem r_kdi2 (h : H a = some (.dK kvs)) (q : Q (.bl (valV kvs (.inl i)).isSome) H) : kDI2 (.int i) Q (.ref a) H := ⟨a, _, rfl, DGet.k (k := .inl i) h, q⟩
theorem r_kdi2f (h : H a = some (.frz o (.dK kvs))) (q : Q (.bl (valV kvs (.inl i)).isSome) H) : kDI2 (.int i) Q (.ref a) H := ⟨a, _, rfl, .inl ⟨kvs, .inl i, .inr ⟨o, h⟩, rfl, rfl⟩, q⟩
theorem r_dnotin (h : ty σ H (kDN td σ Q)) : tDNotIn ty td σ H Q := h
theorem r_kdn (h : td σ H (kDN2 y Q)) : kDN td σ Q y H := h
theorem r_kdn2 (h : H a = some (.dK kvs)) (q : Q (.bl (!(valV kvs (.inl i)).isSome)) H) : kDN2 (.int i) Q (.ref a) H := ⟨a, _, rfl, DGet.k (k := .inl i) h, q⟩
theorem r_dget (h : td σ H (kDG ty σ Q)) : tDGet td ty σ H Q := h
theorem r_kdg (h : ty σ H (kDG2 y Q)) : kDG ty σ Q y H := h
theorem r_kdg2 (h : H a = some (.dK kvs)) (e : valV kvs (.inl i) = some v) (q : Q v H) : kDG2 (.ref a) Q (.int i) H := ⟨a, v, rfl, by rw [← e]; exact DGet.k (k := .inl i) h, q⟩
theorem r_kdg2f (h : H a = some (.frz o (.dK kvs))) (e : valV kvs (.inl i) = some v) (q : Q v H) : kDG2 (.ref a) Q (.int i) H := ⟨a, v, rfl, by rw [← e]; exact .inl ⟨kvs, .inl i, .inr ⟨o, h⟩, rfl, rfl⟩, q⟩
theorem r_dget1 (h : td σ H (kDT ty σ Q)) : tDGet1 td ty σ H Q := h
theorem r_kdt (h : H a = some (.dK kvs)) (q : ty σ H (kDT2 a Q)) : kDT ty σ Q (.ref a) H := ⟨a, rfl, .inl ⟨kvs, .inl h⟩, q⟩
theorem r_kdt2 (h : H a = some (.dK kvs)) (q : Q ((valV kvs (.inl i)).getD .non) H) : kDT2 a Q (.int i) H := ⟨_, DGet.k (k := .inl i) h, q⟩
theorem r_dput (h : tv σ H (kDP D σ td ty)) : sDPut td ty tv D σ H := h
theorem r_kdp (h : td σ H (kDP2 D σ ty v)) : kDP D σ td ty v H := h
theorem r_kdp2 (h : ty σ H (kDP3 D σ v y)) : kDP2 D σ ty v y H := h
theorem r_kdp3 (h : H a = some (.dK kvs)) (hl : kvs.length ≤ 100000) (q : D.nx σ (upd H a (.dK (putK kvs (.inl i) v)))) : kDP3 D σ v (.ref a) (.int i) H := ⟨a, _, rfl, DPut.k (k := .inl i) h (by rw [sz]; omega), q⟩
theorem r_ddel (h : td σ H (kDD D σ ty)) : sDDel td ty D σ H := h
theorem r_kdd (h : ty σ H (kDD2 D σ y)) : kDD D σ ty y H := h
theorem r_kdd2 (h : H a = some (.dK kvs)) (e : (valV kvs (.inl i)).isSome = true) (q : D.nx σ (upd H a (.dK (dropK kvs (.inl i))))) : kDD2 D σ (.ref a) (.int i) H := ⟨a, kvs, .inl i, rfl, h, rfl, e, q⟩
theorem r_dpop1 (h : td σ H (kDO ty σ Q)) : tDPop1 td ty σ H Q := h
theorem r_kdo (h : H a = some (.dK kvs)) (q : ty σ H (kDO2 a Q)) : kDO ty σ Q (.ref a) H := ⟨a, rfl, .inl ⟨kvs, .inl h⟩, q⟩
theorem r_kdo2 (h : H a = some (.dK kvs)) (e : valV kvs (.inl i) = some v) (q : Q v (upd H a (.dK (dropK kvs (.inl i))))) : kDO2 a Q (.int i) H := ⟨kvs, .inl i, v, h, rfl, e, q⟩
theorem r_ikeys (h : td σ H (kIk R)) : iKeys td σ H R := h
theorem r_kIk (h : H a = some (.frz o (.dK kvs))) (q : R (Itk a o kvs) H) : kIk R (.ref a) H := ⟨a, o, rfl, .inl ⟨kvs, h, q⟩⟩
theorem r_dnew (h : ∀ p, H p = none → Q (.ref p) (upd H p (.dK []))) : tDNewK σ H Q := h
theorem r_lenD (h : H a = some (.dK kvs)) (q : Q (.int kvs.length) H) : rLenD [.ref a] H Q := ⟨a, kvs, rfl, h, q⟩
theorem r_dictD (h : H a = some (.dK kvs)) (q : ∀ p, H p = none → Q (.ref p) (upd H p (.dK kvs))) : rDictD [.ref a] H Q := ⟨a, kvs, rfl, .inl h, q⟩
theorem c_lenD {X : Cx} : CallR X (.builtin "len") rLenD := call_lenD
theorem c_dictD {X : Cx} : CallR X (.type "dict") rDictD := call_dictD
/-- a for over a locked dict with int keys -/
theorem r_forKeys {g : TG} {tb : TS} (Pv : Nat → L2.St → Hp → Prop) (h0 : Pv 0 σ H) (hG : ∀ i σ H, i ≤ kvs.length → Pv i σ H → H a = some (.frz o (.dK kvs)))
    (hs : ∀ (j : Nat) (k : Key) (v : V) (σ : L2.St) (H : Hp), kvs[j]? = some (k, v) → Pv j σ H → g (kV k) σ H fun σ2 H2 => tb { D with nx := Pv (j + 1), ct := Pv (j + 1), bk := D.nx } σ2 H2) (hd : ∀ σ H, Pv kvs.length σ H → D.nx σ H) : kFor g tb D σ (Itk a o kvs) H :=
  for_it walk_keys Pv h0 hG (fun j x σ H H' hj p ⟨e, k, v, hk, hx⟩ => by subst e; rw [hx]; exact hs j k v σ _ hk p) hd
end

/-! ### records: dicts with the keys of a law's model -/
theorem val_ne {s t : Str} {v : V} {r : List (Key × V)} (h : ¬ s = t) : valV ((Sum.inr s, v) :: r) (Sum.inr t : Key) = valV r (.inr t) := valV_neg fun z => h (Sum.inr.inj z)
theorem val_eq {s : Str} {v : V} {r : List (Key × V)} : valV ((Sum.inr s, v) :: r) (Sum.inr s : Key) = some v := valV_pos rfl
def mapK (t : Str) (v : V) (kvs : List (Key × V)) : List (Key × V) := kvs.map (fun kv => if kv.1 = .inr t then (kv.1, v) else kv)
theorem mapK_nil {t : Str} {v : V} : mapK t v [] = [] := rfl
theorem mapK_ne {s t : Str} {u v : V} {r : List (Key × V)} (h : ¬ s = t) : mapK t v ((.inr s, u) :: r) = (.inr s, u) :: mapK t v r := by
  unfold mapK
  rw [List.map_cons, if_neg fun z => h (Sum.inr.inj z)]
theorem mapK_eq {t : Str} {u v : V} {r : List (Key × V)} : mapK t v ((.inr t, u) :: r) = (.inr t, v) :: mapK t v r := by
  unfold mapK
  rw [List.map_cons, if_pos rfl]
theorem putK_in {kvs : List (Key × V)} {t : Str} {v u : V} (h : valV kvs (.inr t) = some u) : putK kvs (.inr t) v = mapK t v kvs := by
  unfold putK mapK
  rw [valV_any, h]
  rfl
theorem r_kdg2s {H : Hp} {Q : V → Hp → Prop} {a : Addr} {kvs : List (Key × V)} {s : Str} {v : V} (h : H a = some (.dK kvs)) (e : valV kvs (.inr s) = some v) (q : Q v H) : kDG2 (.ref a) Q (.str s) H := ⟨a, v, rfl, by rw [← e]; exact DGet.k (k := .inr s) h, q⟩
theorem r_kdp3s {H : Hp} {D : Ends} {σ : L2.St} {a : Addr} {kvs : List (Key × V)} {s : Str} {v : V} (h : H a = some (.dK kvs)) (hl : kvs.length ≤ 100000) (q : D.nx σ (upd H a (.dK (putK kvs (.inr s) v)))) : kDP3 D σ v (.ref a) (.str s) H := ⟨a, _, rfl, DPut.k (k := .inr s) h (by rw [sz]; omega), q⟩

/-! ### dict displays with texts as keys -/
def kP3 (x y : V) (Q : List (V × V) → Hp → Prop) : List (V × V) → Hp → Prop := fun ps H3 => Q ((x, y) :: ps) H3
def kP2 (x : V) (r : List (TE × TE)) (σ : L2.St) (Q : List (V × V) → Hp → Prop) : V → Hp → Prop := fun y H2 => tPairs r σ H2 (kP3 x y Q)
def kP1 (tv : TE) (r : List (TE × TE)) (σ : L2.St) (Q : List (V × V) → Hp → Prop) : V → Hp → Prop := fun x H1 => tv σ H1 (kP2 x r σ Q)
def kDisp (p : Addr) (Q : V → Hp → Prop) : List (V × V) → Hp → Prop := fun ps H2 => H2 p = some (.dK []) ∧ ∃ kvs : List (Key × V), ps = kvs.map (fun kv => (kV kv.1, kv.2)) ∧ kvs.length ≤ 15 ∧ Q (.ref p) (upd H2 p (.dK (mergeK [] kvs)))
theorem r_disp {trs : List (TE × TE)} {σ : L2.St} {H : Hp} {Q : V → Hp → Prop} (h : ∀ p, H p = none → (fun H' => tPairs trs σ H' (kDisp p Q)) (upd H p (.dK []))) : tDisp trs σ H Q := h
theorem r_pcons {tk tv : TE} {r : List (TE × TE)} {σ : L2.St} {H : Hp} {Q : List (V × V) → Hp → Prop} (h : tk σ H (kP1 tv r σ Q)) : tPairs ((tk, tv) :: r) σ H Q := h
theorem r_pnil {σ : L2.St} {H : Hp} {Q : List (V × V) → Hp → Prop} (h : Q [] H) : tPairs [] σ H Q := h
theorem r_kp1 {x : V} {tv : TE} {r : List (TE × TE)} {σ : L2.St} {H : Hp} {Q : List (V × V) → Hp → Prop} (h : tv σ H (kP2 x r σ Q)) : kP1 tv r σ Q x H := h
theorem r_kp2 {x y : V} {r : List (TE × TE)} {σ : L2.St} {H : Hp} {Q : List (V × V) → Hp → Prop} (h : tPairs r σ H (kP3 x y Q)) : kP2 x r σ Q y H := h
theorem r_kp3 {x y : V} {ps : List (V × V)} {H : Hp} {Q : List (V × V) → Hp → Prop} (h : Q ((x, y) :: ps) H) : kP3 x y Q ps H := h
theorem r_kdisp {p : Addr} {kvs : List (Key × V)} {ps : List (V × V)} {H : Hp} {Q : V → Hp → Prop} (h : H p = some (.dK [])) (e : ps = kvs.map (fun kv => (kV kv.1, kv.2))) (hl : kvs.length ≤ 15) (em : mergeK [] kvs = kvs) (q : ∀ H', upd H p (.dK kvs) = H' → H' p = some (.dK kvs) → Q (.ref p) H') : kDisp p Q ps H :=
  ⟨h, kvs, e, hl, by rw [em]; exact q _ rfl upd_same⟩
local macro_rules | `(tactic| walk_at "rd1") => `(tactic| with_reducible (first | refine' Sg.r_pcons ?_ | refine' Sg.r_pnil ?_ | refine' Sg.r_kp1 ?_ | refine' Sg.r_kp2 ?_ | refine' Sg.r_kp3 ?_))
theorem putK_newS {kvs : List (Key × V)} {t : Str} {v : V} (h : valV kvs (.inr t) = none) : putK kvs (.inr t) v = kvs ++ [(.inr t, v)] := by
  unfold putK
  rw [valV_any, h]
  rfl
def kS (t : Str) : Key := .inr t
theorem r_kdp3m {H : Hp} {D : Ends} {σ : L2.St} {a : Addr} {kvs kvs' : List (Key × V)} {s : Str} {v : V} (h : H a = some (.dK kvs)) (hl : kvs.length ≤ 100000) (e : putK kvs (.inr s) v = kvs') (q : D.nx σ (upd H a (.dK kvs'))) : kDP3 D σ v (.ref a) (.str s) H := r_kdp3s h hl (by rw [e]; exact q)
local macro_rules | `(tactic| walk_at "rd1") => `(tactic| with_reducible (first | refine' Sg.r_dget ?_ | refine' Sg.r_kdg ?_ | (refine' Sg.r_kdg2s ?h ?e ?_; (case h => (with_unfolding_all walk_at "hp")); (case e => walk_at "mdv")) | refine' Sg.r_dput ?_ | refine' Sg.r_kdp ?_ | refine' Sg.r_kdp2 ?_ | (refine' Sg.r_kdp3m ?h ?hl ?e ?_; (case h => (with_unfolding_all walk_at "hp")); (case hl => walk_at "mdl"); (case e => walk_at "mdp"); (with_unfolding_all walk_at "up"))))

def lm5 (a0 a1 a2 a3 a4 : V) : List (Key × V) := [(.inr "present", a0), (.inr "slots", a1), (.inr "head", a2), (.inr "place", a3), (.inr "region", a4)]
theorem lm5_len {a0 a1 a2 a3 a4 : V} : (lm5 a0 a1 a2 a3 a4).length ≤ 100000 := by
  show 5 ≤ 100000
  omega
def lm6 (a0 a1 a2 a3 a4 a5 : V) : List (Key × V) := [(.inr "present", a0), (.inr "slots", a1), (.inr "head", a2), (.inr "place", a3), (.inr "region", a4), (.inr "queue", a5)]
theorem lm6_len {a0 a1 a2 a3 a4 a5 : V} : (lm6 a0 a1 a2 a3 a4 a5).length ≤ 100000 := by
  show 6 ≤ 100000
  omega
def lm7 (a0 a1 a2 a3 a4 a5 a6 : V) : List (Key × V) := [(.inr "present", a0), (.inr "slots", a1), (.inr "head", a2), (.inr "place", a3), (.inr "region", a4), (.inr "queue", a5), (.inr "sequence", a6)]
theorem lm7_len {a0 a1 a2 a3 a4 a5 a6 : V} : (lm7 a0 a1 a2 a3 a4 a5 a6).length ≤ 100000 := by
  show 7 ≤ 100000
  omega
def lm8 (a0 a1 a2 a3 a4 a5 a6 a7 : V) : List (Key × V) := [(.inr "present", a0), (.inr "slots", a1), (.inr "head", a2), (.inr "place", a3), (.inr "region", a4), (.inr "queue", a5), (.inr "sequence", a6), (.inr "blocks", a7)]
theorem lm8_len {a0 a1 a2 a3 a4 a5 a6 a7 : V} : (lm8 a0 a1 a2 a3 a4 a5 a6 a7).length ≤ 100000 := by
  show 8 ≤ 100000
  omega
def lm (a0 a1 a2 a3 a4 a5 a6 a7 a8 : V) : List (Key × V) := [(.inr "present", a0), (.inr "slots", a1), (.inr "head", a2), (.inr "place", a3), (.inr "region", a4), (.inr "queue", a5), (.inr "sequence", a6), (.inr "blocks", a7), (.inr "counts", a8)]
theorem lm_len {a0 a1 a2 a3 a4 a5 a6 a7 a8 : V} : (lm a0 a1 a2 a3 a4 a5 a6 a7 a8).length ≤ 100000 := by
  show 9 ≤ 100000
  omega
theorem lm_present {a0 a1 a2 a3 a4 a5 a6 a7 a8 : V} : valV (lm a0 a1 a2 a3 a4 a5 a6 a7 a8) (.inr "present") = some a0 := by rw [lm, val_eq]
theorem lm_slots {a0 a1 a2 a3 a4 a5 a6 a7 a8 : V} : valV (lm a0 a1 a2 a3 a4 a5 a6 a7 a8) (.inr "slots") = some a1 := by rw [lm, val_ne (by decide +kernel), val_eq]
theorem lm_head {a0 a1 a2 a3 a4 a5 a6 a7 a8 : V} : valV (lm a0 a1 a2 a3 a4 a5 a6 a7 a8) (.inr "head") = some a2 := by rw [lm, val_ne (by decide +kernel), val_ne (by decide +kernel), val_eq]
theorem lm_place {a0 a1 a2 a3 a4 a5 a6 a7 a8 : V} : valV (lm a0 a1 a2 a3 a4 a5 a6 a7 a8) (.inr "place") = some a3 := by rw [lm, val_ne (by decide +kernel), val_ne (by decide +kernel), val_ne (by decide +kernel), val_eq]
theorem lm_region {a0 a1 a2 a3 a4 a5 a6 a7 a8 : V} : valV (lm a0 a1 a2 a3 a4 a5 a6 a7 a8) (.inr "region") = some a4 := by rw [lm, val_ne (by decide +kernel), val_ne (by decide +kernel), val_ne (by decide +kernel), val_ne (by decide +kernel), val_eq]
theorem lm_queue {a0 a1 a2 a3 a4 a5 a6 a7 a8 : V} : valV (lm a0 a1 a2 a3 a4 a5 a6 a7 a8) (.inr "queue") = some a5 := by rw [lm, val_ne (by decide +kernel), val_ne (by decide +kernel), val_ne (by decide +kernel), val_ne (by decide +kernel), val_ne (by decide +kernel), val_eq]
theorem lm_sequence {a0 a1 a2 a3 a4 a5 a6 a7 a8 : V} : valV (lm a0 a1 a2 a3 a4 a5 a6 a7 a8) (.inr "sequence") = some a6 := by rw [lm, val_ne (by decide +kernel), val_ne (by decide +kernel), val_ne (by decide +kernel), val_ne (by decide +kernel), val_ne (by decide +kernel), val_ne (by decide +kernel), val_eq]
theorem lm_blocks {a0 a1 a2 a3 a4 a5 a6 a7 a8 : V} : valV (lm a0 a1 a2 a3 a4 a5 a6 a7 a8) (.inr "blocks") = some a7 := by rw [lm, val_ne (by decide +kernel), val_ne (by decide +kernel), val_ne (by decide +kernel), val_ne (by decide +kernel), val_ne (by decide +kernel), val_ne (by decide +kernel), val_ne (by decide +kernel), val_eq]
theorem lm_counts {a0 a1 a2 a3 a4 a5 a6 a7 a8 : V} : valV (lm a0 a1 a2 a3 a4 a5 a6 a7 a8) (.inr "counts") = some a8 := by rw [lm, val_ne (by decide +kernel), val_ne (by decide +kernel), val_ne (by decide +kernel), val_ne (by decide +kernel), val_ne (by decide +kernel), val_ne (by decide +kernel), val_ne (by decide +kernel), val_ne (by decide +kernel), val_eq]
theorem lm_put_present {a0 a1 a2 a3 a4 a5 a6 a7 a8 v : V} : putK (lm a0 a1 a2 a3 a4 a5 a6 a7 a8) (.inr "present") v = lm v a1 a2 a3 a4 a5 a6 a7 a8 := by
  rw [putK_in lm_present, lm, mapK_eq, mapK_ne (by decide +kernel), mapK_ne (by decide +kernel), mapK_ne (by decide +kernel), mapK_ne (by decide +kernel), mapK_ne (by decide +kernel), mapK_ne (by decide +kernel), mapK_ne (by decide +kernel), mapK_ne (by decide +kernel), mapK_nil]
  rfl
theorem lm_put_slots {a0 a1 a2 a3 a4 a5 a6 a7 a8 v : V} : putK (lm a0 a1 a2 a3 a4 a5 a6 a7 a8) (.inr "slots") v = lm a0 v a2 a3 a4 a5 a6 a7 a8 := by
  rw [putK_in lm_slots, lm, mapK_ne (by decide +kernel), mapK_eq, mapK_ne (by decide +kernel), mapK_ne (by decide +kernel), mapK_ne (by decide +kernel), mapK_ne (by decide +kernel), mapK_ne (by decide +kernel), mapK_ne (by decide +kernel), mapK_ne (by decide +kernel), mapK_nil]
  rfl
theorem lm_put_head {a0 a1 a2 a3 a4 a5 a6 a7 a8 v : V} : putK (lm a0 a1 a2 a3 a4 a5 a6 a7 a8) (.inr "head") v = lm a0 a1 v a3 a4 a5 a6 a7 a8 := by
  rw [putK_in lm_head, lm, mapK_ne (by decide +kernel), mapK_ne (by decide +kernel), mapK_eq, mapK_ne (by decide +kernel), mapK_ne (by decide +kernel), mapK_ne (by decide +kernel), mapK_ne (by decide +kernel), mapK_ne (by decide +kernel), mapK_ne (by decide +kernel), mapK_nil]
  rfl
theorem lm_put_place {a0 a1 a2 a3 a4 a5 a6 a7 a8 v : V} : putK (lm a0 a1 a2 a3 a4 a5 a6 a7 a8) (.inr "place") v = lm a0 a1 a2 v a4 a5 a6 a7 a8 := by
  rw [putK_in lm_place, lm, mapK_ne (by decide +kernel), mapK_ne (by decide +kernel), mapK_ne (by decide +kernel), mapK_eq, mapK_ne (by decide +kernel), mapK_ne (by decide +kernel), mapK_ne (by decide +kernel), mapK_ne (by decide +kernel), mapK_ne (by decide +kernel), mapK_nil]
  rfl
theorem lm_put_region {a0 a1 a2 a3 a4 a5 a6 a7 a8 v : V} : putK (lm a0 a1 a2 a3 a4 a5 a6 a7 a8) (.inr "region") v = lm a0 a1 a2 a3 v a5 a6 a7 a8 := by
  rw [putK_in lm_region, lm, mapK_ne (by decide +kernel), mapK_ne (by decide +kernel), mapK_ne (by decide +kernel), mapK_ne (by decide +kernel), mapK_eq, mapK_ne (by decide +kernel), mapK_ne (by decide +kernel), mapK_ne (by decide +kernel), mapK_ne (by decide +kernel), mapK_nil]
  rfl
theorem lm_put_queue {a0 a1 a2 a3 a4 a5 a6 a7 a8 v : V} : putK (lm a0 a1 a2 a3 a4 a5 a6 a7 a8) (.inr "queue") v = lm a0 a1 a2 a3 a4 v a6 a7 a8 := by
  rw [putK_in lm_queue, lm, mapK_ne (by decide +kernel), mapK_ne (by decide +kernel), mapK_ne (by decide +kernel), mapK_ne (by decide +kernel), mapK_ne (by decide +kernel), mapK_eq, mapK_ne (by decide +kernel), mapK_ne (by decide +kernel), mapK_ne (by decide +kernel), mapK_nil]
  rfl
theorem lm_put_sequence {a0 a1 a2 a3 a4 a5 a6 a7 a8 v : V} : putK (lm a0 a1 a2 a3 a4 a5 a6 a7 a8) (.inr "sequence") v = lm a0 a1 a2 a3 a4 a5 v a7 a8 := by
  rw [putK_in lm_sequence, lm, mapK_ne (by decide +kernel), mapK_ne (by decide +kernel), mapK_ne (by decide +kernel), mapK_ne (by decide +kernel), mapK_ne (by decide +kernel), mapK_ne (by decide +kernel), mapK_eq, mapK_ne (by decide +kernel), mapK_ne (by decide +kernel), mapK_nil]
  rfl
theorem lm_put_blocks {a0 a1 a2 a3 a4 a5 a6 a7 a8 v : V} : putK (lm a0 a1 a2 a3 a4 a5 a6 a7 a8) (.inr "blocks") v = lm a0 a1 a2 a3 a4 a5 a6 v a8 := by
  rw [putK_in lm_blocks, lm, mapK_ne (by decide +kernel), mapK_ne (by decide +kernel), mapK_ne (by decide +kernel), mapK_ne (by decide +kernel), mapK_ne (by decide +kernel), mapK_ne (by decide +kernel), mapK_ne (by decide +kernel), mapK_eq, mapK_ne (by decide +kernel), mapK_nil]
  rfl
theorem lm_put_counts {a0 a1 a2 a3 a4 a5 a6 a7 a8 v : V} : putK (lm a0 a1 a2 a3 a4 a5 a6 a7 a8) (.inr "counts") v = lm a0 a1 a2 a3 a4 a5 a6 a7 v := by
  rw [putK_in lm_counts, lm, mapK_ne (by decide +kernel), mapK_ne (by decide +kernel), mapK_ne (by decide +kernel), mapK_ne (by decide +kernel), mapK_ne (by decide +kernel), mapK_ne (by decide +kernel), mapK_ne (by decide +kernel), mapK_ne (by decide +kernel), mapK_eq, mapK_nil]
  rfl
theorem lm5_put {a0 a1 a2 a3 a4 a5 : V} : putK (lm5 a0 a1 a2 a3 a4) (.inr "queue") a5 = lm6 a0 a1 a2 a3 a4 a5 := putK_newS (by rw [lm5, val_ne (by decide +kernel), val_ne (by decide +kernel), val_ne (by decide +kernel), val_ne (by decide +kernel), val_ne (by decide +kernel)]; rfl)
theorem lm6_put {a0 a1 a2 a3 a4 a5 a6 : V} : putK (lm6 a0 a1 a2 a3 a4 a5) (.inr "sequence") a6 = lm7 a0 a1 a2 a3 a4 a5 a6 := putK_newS (by rw [lm6, val_ne (by decide +kernel), val_ne (by decide +kernel), val_ne (by decide +kernel), val_ne (by decide +kernel), val_ne (by decide +kernel), val_ne (by decide +kernel)]; rfl)
theorem lm7_put {a0 a1 a2 a3 a4 a5 a6 a7 : V} : putK (lm7 a0 a1 a2 a3 a4 a5 a6) (.inr "blocks") a7 = lm8 a0 a1 a2 a3 a4 a5 a6 a7 := putK_newS (by rw [lm7, val_ne (by decide +kernel), val_ne (by decide +kernel), val_ne (by decide +kernel), val_ne (by decide +kernel), val_ne (by decide +kernel), val_ne (by decide +kernel), val_ne (by decide +kernel)]; rfl)
theorem lm8_put {a0 a1 a2 a3 a4 a5 a6 a7 a8 : V} : putK (lm8 a0 a1 a2 a3 a4 a5 a6 a7) (.inr "counts") a8 = lm a0 a1 a2 a3 a4 a5 a6 a7 a8 := putK_newS (by rw [lm8, val_ne (by decide +kernel), val_ne (by decide +kernel), val_ne (by decide +kernel), val_ne (by decide +kernel), val_ne (by decide +kernel), val_ne (by decide +kernel), val_ne (by decide +kernel), val_ne (by decide +kernel)]; rfl)
theorem lm5_merge {a0 a1 a2 a3 a4 : V} : mergeK [] (lm5 a0 a1 a2 a3 a4) = lm5 a0 a1 a2 a3 a4 := by
  have e0 : putK ([] : List (Key × V)) (kS "present") a0 = [(kS "present", a0)] := putK_newS rfl
  have e1 : putK ([(kS "present", a0)] : List (Key × V)) (kS "slots") a1 = [(kS "present", a0), (kS "slots", a1)] := putK_newS (val_ne (by decide +kernel))
  have e2 : putK ([(kS "present", a0), (kS "slots", a1)] : List (Key × V)) (kS "head") a2 = [(kS "present", a0), (kS "slots", a1), (kS "head", a2)] := putK_newS ((val_ne (by decide +kernel)).trans (val_ne (by decide +kernel)))
  have e3 : putK ([(kS "present", a0), (kS "slots", a1), (kS "head", a2)] : List (Key × V)) (kS "place") a3 = [(kS "present", a0), (kS "slots", a1), (kS "head", a2), (kS "place", a3)] := putK_newS ((val_ne (by decide +kernel)).trans ((val_ne (by decide +kernel)).trans (val_ne (by decide +kernel))))
  have e4 : putK ([(kS "present", a0), (kS "slots", a1), (kS "head", a2), (kS "place", a3)] : List (Key × V)) (kS "region") a4 = [(kS "present", a0), (kS "slots", a1), (kS "head", a2), (kS "place", a3), (kS "region", a4)] := putK_newS ((val_ne (by decide +kernel)).trans ((val_ne (by decide +kernel)).trans ((val_ne (by decide +kernel)).trans (val_ne (by decide +kernel)))))
  show putK (putK (putK (putK (putK ([] : List (Key × V)) (kS "present") a0) (kS "slots") a1) (kS "head") a2) (kS "place") a3) (kS "region") a4 = _
  rw [e0, e1, e2, e3, e4]
  rfl
local macro_rules | `(tactic| walk_at "mdv") => `(tactic| first | exact Sg.lm_present | exact Sg.lm_slots | exact Sg.lm_head | exact Sg.lm_place | exact Sg.lm_region | exact Sg.lm_queue | exact Sg.lm_sequence | exact Sg.lm_blocks | exact Sg.lm_counts)
local macro_rules | `(tactic| walk_at "mdp") => `(tactic| first | exact Sg.lm_put_present | exact Sg.lm_put_slots | exact Sg.lm_put_head | exact Sg.lm_put_place | exact Sg.lm_put_region | exact Sg.lm_put_queue | exact Sg.lm_put_sequence | exact Sg.lm_put_blocks | exact Sg.lm_put_counts | exact Sg.lm5_put | exact Sg.lm6_put | exact Sg.lm7_put | exact Sg.lm8_put)
local macro_rules | `(tactic| walk_at "mdl") => `(tactic| first | exact Sg.lm_len | exact Sg.lm8_len | exact Sg.lm7_len | exact Sg.lm6_len | exact Sg.lm5_len)

/-! ### what is kept but for some -/
def ExL (ms : List Addr) (H H' : Hp) : Prop := ∀ x o, x ∉ ms → H x = some o → H' x = some o
theorem ExL.of {ms : List Addr} {H H' : Hp} (s : Same H H') : ExL ms H H' := fun x o _ h => s x o h
theorem ExL.refl {ms : List Addr} {H : Hp} : ExL ms H H := fun _ _ _ h => h
theorem ExL.put {ms : List Addr} {H H' : Hp} {l : Addr} {o : HO} (hl : l ∈ ms) (e : upd H l o = H') : ExL ms H H' := fun x u n q => by
  rw [← e, upd_ne (fun z : x = l => n (by rw [z]; exact hl))]
  exact q
theorem ExL.sub {ms ns : List Addr} {H H' : Hp} (h : ExL ms H H') (s : ∀ x ∈ ms, x ∈ ns) : ExL ns H H' := fun x o n q => h x o (fun z => n (s x z)) q
/-- a later change touches what was touched, or what is new -/
theorem ExL.trans {ms ns : List Addr} {H H1 H2 : Hp} (h : ExL ms H H1) (h' : ExL ns H1 H2) (s : ∀ x ∈ ns, x ∈ ms ∨ H x = none) : ExL ms H H2 := fun x o n q => h' x o (fun z => (s x z).elim n fun y => by rw [y] at q; cases q) (h x o n q)
/-! ### a device by its addresses -/
def DevQ (C : Addr) (H : Hp) (d su sh un : Addr) (m : DevM) : Prop := ∃ (dx : Addr) (fs : List (Str × V)) (us : List Addr), H d = some (.ins C dx fs) ∧ DevFs fs m su sh un ∧ su ≠ sh ∧ su ≠ un ∧ sh ≠ un ∧
  H su = some (.lst m.sure) ∧ H sh = some (.lst m.shown) ∧ H un = some (.lst (us.map V.ref)) ∧ Paired (fun (u : Addr) (p : Int × V) => H u = some (.tup [.int p.1, p.2])) us m.wait
def cut4 (ms : List Addr) (H : Hp) : Hp := fun x => if x ∈ ms then none else H x
theorem cut4_in {ms : List Addr} {H : Hp} {x : Addr} (h : x ∈ ms) : cut4 ms H x = none := if_pos h
theorem cut4_out {ms : List Addr} {H : Hp} {x : Addr} (h : x ∉ ms) : cut4 ms H x = H x := if_neg h
theorem cut4_same {ms : List Addr} {H : Hp} : Same (cut4 ms H) H := fun x o h => by
  by_cases c : x ∈ ms
  · rw [cut4_in c] at h; cases h
  · rw [cut4_out c] at h; exact h
theorem DevQ.toIn {C : Addr} {H : Hp} {d su sh un : Addr} {m : DevM} (h : DevQ C H d su sh un m) : DevIn C (cut4 [d, su, sh, un] H) H d m := by
  obtain ⟨dx, fs, us, h1, h2, h6, h7, h8, h9, h10, h11, h12⟩ := h
  exact ⟨cut4_same, cut4_in (by simp), dx, fs, su, sh, un, us, h1, h2, cut4_in (by simp), cut4_in (by simp), cut4_in (by simp), h6, h7, h8, h9, h10, h11, h12⟩
theorem DevQ.ofIn {C : Addr} {H H' : Hp} {ms : List Addr} {d : Addr} {m : DevM} (h : DevIn C (cut4 ms H) H' d m) : ExL ms H H' ∧ ∃ su sh un, DevQ C H' d su sh un m ∧ ∀ x ∈ [su, sh, un], x ∈ ms ∨ H x = none := by
  obtain ⟨s0, n0, dx, fs, su, sh, un, us, h1, h2, h3, h4, h5, h6, h7, h8, h9, h10, h11, h12⟩ := h
  have k : ∀ x, cut4 ms H x = none → x ∈ ms ∨ H x = none := fun x hx => by
    by_cases c : x ∈ ms
    · exact .inl c
    · rw [cut4_out c] at hx; exact .inr hx
  refine ⟨fun x o n q => s0 x o (by rw [cut4_out n]; exact q), su, sh, un, ⟨dx, fs, us, h1, h2, h6, h7, h8, h9, h10, h11, h12⟩, fun x hx => ?_⟩
  simp only [List.mem_cons, List.not_mem_nil, or_false] at hx
  rcases hx with rfl | rfl | rfl
  · exact k _ h3
  · exact k _ h4
  · exact k _ h5
theorem DevQ.frame {C : Addr} {H H' : Hp} {d su sh un : Addr} {m : DevM} (h : DevQ C H d su sh un m) (e : ∀ x ∈ [d, su, sh, un], ∀ o, H x = some o → H' x = some o) (k : Keeps H H') : DevQ C H' d su sh un m := by
  obtain ⟨dx, fs, us, h1, h2, h6, h7, h8, h9, h10, h11, h12⟩ := h
  exact ⟨dx, fs, us, e _ (by simp) _ h1, h2, h6, h7, h8, e _ (by simp) _ h9, e _ (by simp) _ h10, e _ (by simp) _ h11, pairs_keeps k h12⟩
/-! ### a step of the law: on the device and on the model -/
theorem i_cut {C : Addr} {args_ : List V} {H : Hp} {Q : V → Hp → Prop} {E : XK} {d su sh un : Addr} {m : DevM} {n : Int} (ev : args_ = [.ref d, .int n]) (hD : DevQ C H d su sh un m)
    (q : ∀ (H' : Hp) (su' sh' un' : Addr), ExL [d, su, sh, un] H H' → Keeps H H' → DevQ C H' d su' sh' un' (cutF m n) → (∀ x ∈ [su', sh', un'], x ∈ [d, su, sh, un] ∨ H x = none) → Q .non H') : sp_cut_after C args_ H Q E :=
  ⟨_, d, m, n, ev, hD.toIn, fun H' h k => by
    obtain ⟨e, su', sh', un', hq, hn⟩ := DevQ.ofIn h
    exact q H' su' sh' un' e k hq hn⟩
theorem i_barrier {C : Addr} {args_ : List V} {H : Hp} {Q : V → Hp → Prop} {E : XK} {d su sh un : Addr} {m : DevM} (ev : args_ = [.ref d]) (hD : DevQ C H d su sh un m)
    (q : ∀ (H' : Hp) (su' sh' un' : Addr), ExL [d, su, sh, un] H H' → Keeps H H' → DevQ C H' d su' sh' un' (barrierF m) → (∀ x ∈ [su', sh', un'], x ∈ [d, su, sh, un] ∨ H x = none) → Q .non H') : sp_barrier C args_ H Q E :=
  ⟨_, d, m, ev, hD.toIn, fun H' h k => by
    obtain ⟨e, su', sh', un', hq, hn⟩ := DevQ.ofIn h
    exact q H' su' sh' un' e k hq hn⟩
theorem i_write {C : Addr} {args_ : List V} {H : Hp} {Q : V → Hp → Prop} {E : XK} {d su sh un : Addr} {m : DevM} {a : Int} {v : V} (ev : args_ = [.ref d, .int a, v]) (hD : DevQ C H d su sh un m) (hw : m.wait.length ≤ 100000)
    (q : ∀ (H' : Hp) (su' sh' un' : Addr), ExL [d, su, sh, un] H H' → Keeps H H' → DevQ C H' d su' sh' un' (writeF m a v) → (∀ x ∈ [su', sh', un'], x ∈ [d, su, sh, un] ∨ H x = none) → Q .non H') : sp_write C args_ H Q E :=
  ⟨_, d, m, a, v, ev, hD.toIn, hw, fun H' h k => by
    obtain ⟨e, su', sh', un', hq, hn⟩ := DevQ.ofIn h
    exact q H' su' sh' un' e k hq hn⟩
theorem i_read {C : Addr} {args_ : List V} {H : Hp} {Q : V → Hp → Prop} {E : XK} {d su sh un : Addr} {m : DevM} {a : Int} (ev : args_ = [.ref d, .int a]) (hD : DevQ C H d su sh un m) (q : Q (readF m a) H) : sp_read C args_ H Q E := ⟨_, d, m, a, ev, hD.toIn, q⟩
local macro_rules | `(tactic| walk_at "ca1") => `(tactic| with_reducible (first | (refine' Sg.i_cut ?ev ?hD ?_; (case ev => (with_unfolding_all rfl)); (case hD => assumption); intros) | (refine' Sg.i_barrier ?ev ?hD ?_; (case ev => (with_unfolding_all rfl)); (case hD => assumption); intros) | (refine' Sg.i_write ?ev ?hD ?hw ?_; (case ev => (with_unfolding_all rfl)); (case hD => assumption); (case hw => omega); intros) | (refine' Sg.i_read ?ev ?hD ?_; (case ev => (with_unfolding_all rfl)); (case hD => assumption))))

def fuseI (m : DevM) : Int := match m.left with
  | none => -1
  | some k => k
/-- what the law's steps rely on -/
structure GdM (n : Nat) (m : DevM) : Prop where
  ls : m.shown.length = n
  lu : m.sure.length = n
  co : m.off = false → m.wait.foldl (fun xs p => putB xs p.1 p.2) m.sure = m.shown
  lf : ∀ k, m.left = some k → 0 ≤ k
def stepF (m : DevM) (kd a num : Int) (v : V) : DevM := if kd = 0 then cutF m num else if kd = 1 then barrierF m else writeF m a v
theorem fuse_take {m : DevM} (h : ∀ k, m.left = some k → 0 ≤ k) : fuseI (takeF m) = if 0 < fuseI m then fuseI m - 1 else fuseI m := by
  cases e : m.left with
  | none => simp [takeF, fuseI, e]
  | some k =>
    have := h k e
    by_cases c : k = 0
    · subst c
      simp [takeF, fuseI, e]
    · have c2 : 0 < k := by omega
      simp [takeF, fuseI, e, c, c2]
theorem off_take {m : DevM} (h : ∀ k, m.left = some k → 0 ≤ k) : (takeF m).off = (decide (fuseI m = 0) || m.off) := by
  cases e : m.left with
  | none => simp [takeF, fuseI, e]
  | some k =>
    by_cases c : k = 0
    · subst c
      simp [takeF, fuseI, e]
    · simp [takeF, fuseI, e, c]
theorem fuse_cut {m : DevM} {n : Int} : fuseI (cutF m n) = if m.off = true then fuseI m else n := by
  unfold cutF
  split <;> rfl
theorem GdM.take {n : Nat} {m : DevM} (h : GdM n m) : GdM n (takeF m) := by
  obtain ⟨e1, e2, e3, e4⟩ := takeF_lists m
  refine ⟨by rw [e2]; exact h.ls, by rw [e1]; exact h.lu, fun o => ?_, fun k hk => ?_⟩
  · rw [off_take h.lf] at o
    rw [e1, e2, e3]
    exact h.co (by cases hm : m.off with | false => rfl | true => rw [hm, Bool.or_true] at o; cases o)
  · unfold takeF at hk
    cases e : m.left with
    | none => rw [e] at hk; dsimp only at hk; rw [e] at hk; cases hk
    | some j =>
      have := h.lf j e
      rw [e] at hk
      dsimp only at hk
      split at hk
      · cases hk
        exact this
      · cases hk
        omega
theorem foldB_len (w : List (Int × V)) : ∀ xs : List V, (w.foldl (fun xs p => putB xs p.1 p.2) xs).length = xs.length := by
  induction w with
  | nil => exact fun _ => rfl
  | cons p w ih =>
    intro xs
    rw [List.foldl_cons, ih, putB_len]
theorem GdM.step {n : Nat} {m : DevM} (h : GdM n m) (kd a num : Int) (v : V) (u0 : 0 ≤ num) : GdM n (stepF m kd a num v) := by
  unfold stepF
  split
  · unfold cutF
    split
    · exact h
    · exact ⟨h.ls, h.lu, h.co, fun k hk => by cases hk; exact u0⟩
  · have t := h.take
    obtain ⟨e1, e2, e3, e4⟩ := takeF_lists m
    split
    · unfold barrierF
      split
      · exact t
      · rename_i o
        have o' : (takeF m).off = false := by simpa using o
        have c := t.co o'
        rw [e1, e2, e3] at c
        refine ⟨t.ls, ?_, fun _ => ?_, t.lf⟩
        · dsimp only
          rw [foldB_len]
          exact h.lu
        · dsimp only
          rw [List.foldl_nil, c, e2]
    · unfold writeF
      refine ⟨by dsimp only; rw [putB_len]; exact h.ls, t.lu, fun o => ?_, t.lf⟩
      dsimp only at o ⊢
      have c := t.co o
      rw [e1, e2, e3] at c
      rw [o, if_neg (by decide), List.foldl_append, e1, c]
      rfl

/-! ### what a deed does to a heap: M is what may change, G what stays -/
structure Stp (M M' : List Addr) (G H G' H' : Hp) : Prop where
  ex : ExL M H H'
  kp : Keeps H H'
  gg : Same G G'
  gh : Same G' H'
  gn : ∀ x, G' x ≠ none → G x ≠ none ∨ H x = none ∨ x ∈ M
  mm : ∀ x ∈ M', x ∈ M ∨ H x = none
  mg : ∀ x ∈ M', G' x = none
  lv : ∀ x ∈ M', H' x ≠ none
structure Frm (M : List Addr) (G H : Hp) : Prop where
  gh : Same G H
  mg : ∀ x ∈ M, G x = none
  lv : ∀ x ∈ M, H x ≠ none
theorem Frm.cut {M : List Addr} {H : Hp} (l : ∀ x ∈ M, H x ≠ none) : Frm M (cut4 M H) H := ⟨cut4_same, fun _ h => cut4_in h, l⟩
theorem Stp.frm {M M' : List Addr} {G H G' H' : Hp} (s : Stp M M' G H G' H') : Frm M' G' H' := ⟨s.gh, s.mg, s.lv⟩
theorem Stp.refl {M : List Addr} {G H : Hp} (f : Frm M G H) : Stp M M G H G H := ⟨ExL.refl, Keeps.refl H, Same.refl G, f.gh, fun _ h => .inl h, fun _ h => .inl h, f.mg, f.lv⟩
theorem Stp.trans {M M1 M2 : List Addr} {G H G1 H1 G2 H2 : Hp} (a : Stp M M1 G H G1 H1) (b : Stp M1 M2 G1 H1 G2 H2) : Stp M M2 G H G2 H2 := by
  have old : ∀ x, H1 x = none → H x = none ∨ x ∈ M := fun x h => by
    by_cases c : x ∈ M
    · exact .inr c
    · cases g : H x with
      | none => exact .inl rfl
      | some o => rw [a.ex x o c g] at h; cases h
  have bk : ∀ x, H1 x = none ∨ x ∈ M1 → H x = none ∨ x ∈ M := fun x h => h.elim (old x) fun m => (a.mm x m).symm
  refine ⟨fun x o n q => b.ex x o (fun z => (a.mm x z).elim n fun y => by rw [y] at q; cases q) (a.ex x o n q), a.kp.trans b.kp, a.gg.trans b.gg, b.gh, fun x h => ?_, fun x h => ?_, b.mg, b.lv⟩
  · exact (b.gn x h).elim (a.gn x) fun z => .inr (bk x z)
  · exact (b.mm x h).elim (a.mm x) fun z => (old x z).symm
/-- the heap grew: what is new stays from now on -/
def grow (G H H' : Hp) : Hp := fun x => if H x = none then H' x else G x
theorem grow_new {G H H' : Hp} {x : Addr} (h : H x = none) : grow G H H' x = H' x := if_pos h
theorem grow_old {G H H' : Hp} {x : Addr} (h : H x ≠ none) : grow G H H' x = G x := if_neg h
theorem Stp.same {M : List Addr} {G H H' : Hp} (f : Frm M G H) (s : Same H H') : Stp M M G H (grow G H H') H' := by
  have live : ∀ {x o}, G x = some o → H x ≠ none := fun h z => by rw [f.gh _ _ h] at z; cases z
  refine ⟨ExL.of s, Keeps.of s, fun x o h => by rw [grow_old (live h)]; exact h, fun x o h => ?_, fun x h => ?_, fun _ h => .inl h, fun x h => ?_, fun x h => ?_⟩
  · by_cases c : H x = none
    · rw [grow_new c] at h; exact h
    · rw [grow_old c] at h; exact s _ _ (f.gh _ _ h)
  · by_cases c : H x = none
    · exact .inr (.inl c)
    · rw [grow_old c] at h; exact .inl h
  · rw [grow_old (f.lv x h)]; exact f.mg x h
  · cases g : H x with
    | none => exact absurd g (f.lv x h)
    | some o => rw [s _ _ g]; exact fun z => nomatch z
/-- one of those that may change is changed -/
theorem Stp.put {M : List Addr} {G H H' : Hp} {l : Addr} {o ol : HO} (f : Frm M G H) (hl : l ∈ M) (h : H l = some ol) (n : ¬ Fixed ol) (e : L2.upd H l o = H') : Stp M M G H G H' := by
  refine ⟨ExL.put hl e, Keeps.upd h n e, Same.refl G, fun x u q => ?_, fun x h => .inl h, fun _ h => .inl h, f.mg, fun x hx => ?_⟩
  · rw [← e, upd_ne]
    · exact f.gh _ _ q
    · rintro rfl
      rw [f.mg _ hl] at q
      cases q
  · by_cases c : x = l
    · rw [c, ← e, upd_same]; exact fun z => nomatch z
    · rw [← e, upd_ne c]; exact f.lv x hx
/-- some of those that may change are changed, or replaced by new ones -/
theorem Stp.part {M M' D : List Addr} {G H H' : Hp} (f : Frm M G H) (hd : ∀ x ∈ D, x ∈ M) (e : ExL D H H') (k : Keeps H H') (mm : ∀ x ∈ M', x ∈ M ∨ H x = none) (lv : ∀ x ∈ M', H' x ≠ none) : Stp M M' G H G H' := by
  refine ⟨e.sub hd, k, Same.refl G, fun x o q => ?_, fun x h => .inl h, mm, fun x hx => ?_, lv⟩
  · exact e x o (fun z => by rw [f.mg _ (hd x z)] at q; cases q) (f.gh _ _ q)
  · rcases mm x hx with h | h
    · exact f.mg x h
    · cases g : G x with
      | none => rfl
      | some o => rw [f.gh _ _ g] at h; cases h
/-- more that may change stands by, untouched -/
theorem Stp.wide {M M' N : List Addr} {G H G' H' : Hp} (s : Stp M M' G H G' H') (nM : ∀ x ∈ N, x ∉ M) (nG : ∀ x ∈ N, G x = none) (nl : ∀ x ∈ N, H x ≠ none) : Stp (M ++ N) (M' ++ N) G H G' H' := by
  have k : ∀ x ∈ N, G' x = none := fun x hx => by
    cases g : G' x with
    | none => rfl
    | some o =>
      rcases s.gn x (by rw [g]; exact fun z => nomatch z) with h | h | h
      · exact absurd (nG x hx) h
      · exact absurd h (nl x hx)
      · exact absurd h (nM x hx)
  refine ⟨s.ex.sub fun x h => List.mem_append_left _ h, s.kp, s.gg, s.gh, fun x h => (s.gn x h).imp_right fun z => z.imp_right fun m => List.mem_append_left _ m, fun x h => ?_, fun x h => ?_, fun x h => ?_⟩
  · rcases List.mem_append.mp h with h | h
    · exact (s.mm x h).imp_left fun m => List.mem_append_left _ m
    · exact .inl (List.mem_append_right _ h)
  · exact (List.mem_append.mp h).elim (s.mg x) (k x)
  · rcases List.mem_append.mp h with h | h
    · exact s.lv x h
    · cases g : H x with
      | none => exact absurd g (nl x h)
      | some o => rw [s.ex x o (nM x h) g]; exact fun z => nomatch z
theorem Stp.at_ {M M' : List Addr} {G H G' H' : Hp} (s : Stp M M' G H G' H') {x : Addr} {o : HO} (h : G x = some o) : H' x = some o := s.gh _ _ (s.gg _ _ h)
theorem ExL.back {ms : List Addr} {H H1 : Hp} (e : ExL ms H H1) (l : ∀ y ∈ ms, H1 y ≠ none) {x : Addr} (h : H1 x = none) : H x = none := by
  cases g : H x with
  | none => rfl
  | some o =>
    by_cases c : x ∈ ms
    · exact absurd h (l x c)
    · rw [e x o c g] at h
      cases h
theorem ExL.back1 {H H1 : Hp} {g : Addr} {o : HO} (e : ExL [g] H H1) (l : H1 g = some o) {x : Addr} (h : H1 x = none) : H x = none := ExL.back e (fun y hy => by
  rw [List.mem_singleton.mp hy, l]
  exact fun z => nomatch z) h
theorem ExL.then_ {ms : List Addr} {H H1 H2 : Hp} (a : ExL ms H H1) (b : ExL ms H1 H2) : ExL ms H H2 := fun x o n q => b x o n (a x o n q)

/-! ### slots -/
def SlotIs (H : Hp) (v : V) (o : Option (List Int)) : Prop := match o with
  | none => v = .non
  | some ns => ∃ t, v = .ref t ∧ H t = some (.lst (ns.map V.int))
abbrev SlotsAre (H : Hp) (vs : List V) (os : List (Option (List Int))) : Prop := Paired (SlotIs H) vs os
theorem SlotIs.mono {H H' : Hp} (s : Same H H') {v : V} {o : Option (List Int)} (h : SlotIs H v o) : SlotIs H' v o := by
  cases o with
  | none => exact h
  | some ns =>
    obtain ⟨t, e, h⟩ := h
    exact ⟨t, e, s _ _ h⟩
theorem SlotsAre.mono {H H' : Hp} (s : Same H H') : ∀ {vs : List V} {os : List (Option (List Int))}, SlotsAre H vs os → SlotsAre H' vs os
  | _, _, .nil => .nil
  | _, _, .cons h t => .cons (h.mono s) (SlotsAre.mono s t)
theorem paired_set {α β : Type} {F : α → β → Prop} {x : α} {y : β} (r : F x y) : ∀ {xs : List α} {ys : List β} (i : Nat), Paired F xs ys → Paired F (xs.set i x) (ys.set i y)
  | _, _, _, .nil => .nil
  | _, _, 0, .cons _ t => .cons r t
  | _, _, i + 1, .cons q t => .cons q (paired_set r i t)
def sp_copy_of_table (K : PySem.W.Frag) : Sp := fun vs H Q _ => (vs = [.non] ∧ Q .non H) ∨ ∃ (t : Addr) (xs : List V), vs = [.ref t] ∧ SqL K H t xs ∧ ∀ (H' : Hp) (p : Addr), Same H H' → H p = none → H' p = some (.lst xs) → Q (.ref p) H'
theorem ok_copy_of_table (T : Txt K mg) : FnOk P w K mg base CX0 1 T.a_copy_of_table T.fd_copy_of_table ["table"] (sp_copy_of_table K) := by
  refine T.F_copy_of_table.ok sc_copy_of_table (fun vs H Q E h => ?_) (fun cdv A outer s H vs Q E hr h => ?_)
  · rcases h with ⟨rfl, _⟩ | ⟨t, xs, rfl, _⟩ <;> rfl
  · refine ⟨_, (pss_cons (ps_if (pt_cmp (pc_isN (pv 0)) rfl)
       (pss_one (ps_ret pe_non))
       pss_nil)
       (pss_one (ps_ret (pe_callTy c_list (by rfl) T.n_list (by decide +kernel) (pa_cons (pv 0) pa_nil))))), ?_⟩
    try dsimp only [cxOf, Cx.nox, Cx.wish]
    rcases h with ⟨rfl, q⟩ | ⟨t, xs, rfl, ht, q⟩
    · walk_at "rd"
      exact q
    · walk_at "rd"
      exact q _ _ (by walk_at "sm") (by walk_at "nn") (by walk_at "hp")
/-- what an action makes of slots -/
def slotsF (os : List (Option (List Int))) (ts : List Int) (a : Int) : List (Option (List Int)) :=
  if 1 ≤ a ∧ a ≤ 3 then os.set (a - 1).toNat (some ts) else if 4 ≤ a ∧ a ≤ 6 then os.set (a - 4).toNat none else os
def sp_slots_after (K : PySem.W.Frag) : Sp := fun vs H Q _ => ∃ (l t : Addr) (a : Int) (xs : List V) (os : List (Option (List Int))) (ts : List Int), vs = [.ref l, .ref t, .int a] ∧ SqL K H l xs ∧ SlotsAre H xs os ∧ xs.length = 3 ∧ H t = some (.lst (ts.map V.int)) ∧ 0 ≤ a ∧ a ≤ 6 ∧
  ∀ (H' : Hp) (p : Addr) (ys : List V), Same H H' → H p = none → H' p = some (.lst ys) → SlotsAre H' ys (slotsF os ts a) → (∀ r, V.ref r ∈ ys → H r = none ∧ r ≠ p) → Q (.ref p) H'
theorem ok_slots_after (T : Txt K mg) : FnOk P w K mg base CX0 2 T.a_slots_after T.fd_slots_after ["slots", "table", "action"] (sp_slots_after K) := by
  refine T.F_slots_after.ok sc_slots_after (fun vs H Q E h => ?_) (fun cdv A outer s H vs Q E hr h => ?_)
  · obtain ⟨l, t, a, xs, os, ts, rfl, _⟩ := h
    rfl
  · refine ⟨_, (pss_cons (ps_setLc (i := 3) (own := [("slot", 4)]) (g := gName 4) (tt := tYes) rfl sc_slots_after.nd rfl rfl (sw_true rfl rfl rfl (by decide +kernel)) (pi_list (pv 0)) (blkOk_by (own := [("slot", 4)]) (N := n_slots_after) (sc := defScope s_slots_after) (by decide +kernel)) (fun _ _ _ _ _ => pg_name (i := 4) sc_slots_after.nd rfl (Or.inl rfl)) (fun _ _ _ _ _ => pts_nil) (fun _ _ _ _ _ => (pe_call (ok_copy_of_table T) (hr.mono (by decide)) rfl T.m_copy_of_table T.F_copy_of_table.kp T.b_copy_of_table .nil pass0 (pa_cons (pv 4) pa_nil))))
       (C8.pss_cut (ps_if (pt_chain op_le op_le pe_int (pv 2) pe_int)
       (pss_one (ps_asg (pe_callTy c_list (by rfl) T.n_list (by decide +kernel) (pa_cons (pv 1) pa_nil)) (pg_sub (pv 3) (pe_op op_sub (pv 2) pe_int) set_list)))
       (pss_one (ps_if (pt_chain op_le op_le pe_int (pv 2) pe_int)
       (pss_one (ps_asg pe_non (pg_sub (pv 3) (pe_op op_sub (pv 2) pe_int) set_list)))
       pss_nil)))
       (pss_one (ps_ret (pv 3))))), ?_⟩
    try dsimp only [cxOf, Cx.nox, Cx.wish]
    obtain ⟨l, t, a, xs, os, ts, rfl, hl, ho, h3, ht, a0, a6, q⟩ := h
    walk_at "rd"
    refine r_lcL (fun i acc H0 => SlotsAre H0 acc (os.take i) ∧ ∀ r, V.ref r ∈ acc → H r = none) hl (by omega) rfl ⟨.nil, fun r hr => by cases hr⟩ ?_ ?_
    · rintro i x acc H0 H' hx s0 ⟨hp, hf⟩ s1 R hR
      obtain ⟨o, eo, hi⟩ := paired_at ho hx
      have et : os.take (i + 1) = os.take i ++ [o] := by rw [List.take_add_one, eo]; rfl
      walk_at "rd"
      cases o with
      | none =>
        cases hi
        refine .inl ⟨rfl, ?_⟩
        refine hR _ _ (Same.refl _) fun D n0 n1 => ⟨?_, ?_⟩
        · rw [et]
          exact paired_snoc (SlotsAre.mono (same_hid s1 n0) hp) rfl
        · intro r hr
          rcases List.mem_append.mp hr with hr | hr
          · exact hf r hr
          · simp at hr
      | some ns =>
        obtain ⟨u, rfl, hu⟩ := hi
        refine .inr ⟨u, _, rfl, .of (s1 _ _ (s0 _ _ hu)), fun H2 p s2 n2 h2 => ?_⟩
        refine hR _ _ s2 fun D n0 n1 => ⟨?_, ?_⟩
        · have hne : p ≠ D := fun e => n1 (by rw [← e]; exact n2)
          rw [et]
          exact paired_snoc (SlotsAre.mono (same_hid (s1.trans s2) n0) hp) ⟨p, rfl, by rw [hid_ne hne]; exact h2⟩
        · intro r hr
          rcases List.mem_append.mp hr with hr | hr
          · exact hf r hr
          · simp at hr
            subst hr
            exact (s0.trans s1).free n2
    · rintro H1 p acc s1 n1 h1 el ⟨hp, hf⟩
      have ol : os.length = 3 := by rw [← Paired.length ho, h3]
      rw [h3, ← ol, List.take_length] at hp
      have hac : acc.length = 3 := by rw [Paired.length hp, ol]
      have hfr : ∀ r, V.ref r ∈ acc → H r = none ∧ r ≠ p := fun r hr => by
        obtain ⟨k, hk⟩ := List.mem_iff_getElem?.mp hr
        obtain ⟨o, _, ho'⟩ := paired_at hp hk
        refine ⟨hf r hr, ?_⟩
        cases o with
        | none => cases ho'
        | some ns =>
          obtain ⟨u, eu, hu⟩ := ho'
          cases eu
          exact (of_hid hu).1
      walk_at "rd"
      refine r_cut (fun σ' H' => ∃ ys : List V, σ' = [some (.ref l), some (.ref t), some (.int a), some (.ref p), none] ∧ Same H H' ∧ H' p = some (.lst ys) ∧ SlotsAre H' ys (slotsF os ts a) ∧ ∀ r, V.ref r ∈ ys → H r = none ∧ r ≠ p) ?_ ?_
      · have ha : (1 ≤ a ∧ a ≤ 3) ∨ (4 ≤ a ∧ a ≤ 6) ∨ a = 0 := by omega
        rcases ha with ⟨p0, p1⟩ | ⟨p0, p1⟩ | rfl
        · walk_at "rdo"
          rename_i u nu H2 s2 hu
          refine r_setl (by walk_at "hp") (ixN_ok (by omega) (by omega)) ?_
          generalize hH : upd _ _ _ = H3
          have hup : u ≠ p := fun e => by rw [e, h1] at nu; cases nu
          have hu3 : H3 u = some (.lst (ts.map V.int)) := by rw [← hH, upd_ne hup]; exact hu
          have sh : Same (hid p H1) H3 := Sg.Same.old (hid_same.trans s2) hid_at hH
          refine ⟨_, rfl, Sg.Same.old (by walk_at "sm") n1 hH, Sg.at_new hH, ?_, ?_⟩
          · rw [slotsF, if_pos ⟨p0, p1⟩]
            exact paired_set (y := some ts) ⟨u, rfl, hu3⟩ _ (SlotsAre.mono sh hp)
          · intro r hr
            rcases List.mem_or_eq_of_mem_set hr with hr | hr
            · exact hfr r hr
            · cases hr
              exact ⟨s1.free nu, hup⟩
        · walk_at "rdo"
          refine r_setl (by walk_at "hp") (ixN_ok (by omega) (by omega)) ?_
          generalize hH : upd _ _ _ = H3
          have sh : Same (hid p H1) H3 := Sg.Same.old hid_same hid_at hH
          refine ⟨_, rfl, Sg.Same.old (by walk_at "sm") n1 hH, Sg.at_new hH, ?_, ?_⟩
          · rw [slotsF, if_neg (by omega), if_pos ⟨p0, p1⟩]
            exact paired_set (F := SlotIs H3) (x := V.non) (y := none) rfl _ (SlotsAre.mono sh hp)
          · intro r hr
            rcases List.mem_or_eq_of_mem_set hr with hr | hr
            · exact hfr r hr
            · cases hr
        · walk_at "rdo"
          exact ⟨_, rfl, s1, h1, by rw [slotsF, if_neg (by omega), if_neg (by omega)]; exact SlotsAre.mono hid_same hp, hfr⟩
      · rintro _ H2 ⟨ys, rfl, s2, h2, hy, hf2⟩
        walk_at "rd"
        exact q _ _ ys s2 n1 h2 hy hf2
def slotD : Option (List Int) → PyData
  | none => .none
  | some ns => .list (ns.map PyData.int)
theorem SlotsAre.dp {K : PySem.W.Frag} {H : Hp} : ∀ {vs : List V} {os : List (Option (List Int))}, SlotsAre H vs os → DpAll K H vs (os.map slotD)
  | _, _, .nil => .nil
  | _, _, .cons (a := v) (b := o) h t => by
    refine .cons ?_ (SlotsAre.dp t)
    cases o with
    | none => cases h; exact .non
    | some ns =>
      obtain ⟨u, rfl, hu⟩ := h
      exact Dp.ints (.of hu)
theorem slotD_fl (o : Option (List Int)) : Fl 1 (slotD o) := by
  cases o with
  | none => exact Fl.non 1
  | some ns => exact Fl.intl ns
theorem slotDs_fl (os : List (Option (List Int))) : Fl 2 (.list (os.map slotD)) := Fl.lst fun d hd => by
  obtain ⟨o, _, rfl⟩ := List.mem_map.mp hd
  exact slotD_fl o
theorem SlotsAre.upd' {H : Hp} {x : Addr} {o : HO} : ∀ {vs : List V} {os : List (Option (List Int))}, SlotsAre H vs os → (∀ r, V.ref r ∈ vs → r ≠ x) → SlotsAre (upd H x o) vs os
  | _, _, .nil, _ => .nil
  | _, _, .cons (a := v) (b := o') h t, hn => by
    refine .cons ?_ (SlotsAre.upd' t (fun r hr => hn r (List.mem_cons_of_mem _ hr)))
    cases o' with
    | none => exact h
    | some ns =>
      obtain ⟨u, e, hu⟩ := h
      subst e
      exact ⟨u, rfl, by rw [upd_ne (hn u List.mem_cons_self)]; exact hu⟩
theorem SlotsAre.upd {H : Hp} {x : Addr} {o : HO} {vs : List V} {os : List (Option (List Int))} (hn : ∀ r, V.ref r ∈ vs → r ≠ x) (h : SlotsAre H vs os) : SlotsAre (upd H x o) vs os := SlotsAre.upd' h hn

/-- a def with defaults that lets nothing out (its loops) -/
theorem fund_okN {P : Program} {w : World} {K : PySem.W.Frag} {mg : Str → Option Value} {base : Heap} {x qual : Str} {params : Arguments} {body : List Stmt} {scope : Scope} {dvs : List V} {kws : List (Str × V)} {f : Addr} {fd : FuncData} {N ps : List Str} {k : Nat} {sp : Sp}
    (F : FunD K x qual params body scope dvs kws f fd) (S : FnScope N ps scope) (len : ∀ vs H Q E, sp vs H Q E → vs.length = ps.length)
    (hbody : ∀ (cdv : Value) (A : Around) (outer : List Env) (s : Shared) (H : Hp) (vs : List V) (Q : VK) (E : XK), Room k (A.deeper (PyProof.Rows.envOfC qual scope s.heap.objs.size f cdv)) → sp vs H Q E →
      ∃ t, PSs (cxOf CX0 P w K mg base N qual scope f cdv A outer s H E).nox body t ∧ t { nx := fun _ H' => Q .non H', rt := Q } (start N vs) H) : FnOk P w K mg base CX0 (k + 1) f fd ps sp :=
  F.ok (CX := CX0) S len fun cdv A outer s H vs Q E hr hsp => by
    obtain ⟨t, h, q⟩ := hbody cdv A outer s H vs Q E hr hsp
    exact ⟨t, h.nox, q⟩
/-! ### sets of ints: made of a list or a tuple, asked -/
theorem firstMet_mem (ns : List Int) (k : Int) : ∀ i, i ≤ ns.length → (PyProof.Rows.firstMet (fun i => ns.getD i 0) i).any (· == k) = decide (k ∈ ns.take i)
  | 0, _ => by simp [PyProof.Rows.firstMet_zero]
  | i + 1, h => by
    have hi : i < ns.length := by omega
    have e2 : ns.getD i 0 = ns[i] := by rw [List.getD_eq_getElem?_getD, List.getElem?_eq_getElem hi]; rfl
    have e3 : ns.take (i + 1) = ns.take i ++ [ns[i]] := by rw [List.take_add_one, List.getElem?_eq_getElem hi]; rfl
    rw [PyProof.Rows.firstMet_succ, PyProof.Rows.step_any, firstMet_mem ns k i (by omega), e2, e3]
    rw [Bool.eq_iff_iff]
    simp only [decide_eq_true_eq, Bool.or_eq_true, List.mem_append, List.mem_singleton]
def rSetOf (K : PySem.W.Frag) : List V → Hp → (V → Hp → Prop) → Prop := fun xs H Q => ∃ (l : Addr) (ns : List Int), xs = [.ref l] ∧ (SqL K H l (ns.map V.int) ∨ SqT K H l (ns.map V.int)) ∧ ns.length ≤ 4000 ∧ ∀ (p : Addr) (c : Nat), H p = none → Q (.ref p) (upd H p (.set (fun k => decide (k ∈ ns)) c))
theorem c_set {X : Cx} (hc : X.calm = true) : CallR X (.type "set") (rSetOf X.K) := by
  intro pins s σ H xs us Q I r h
  obtain ⟨l, ns, rfl, hq, hl, q⟩ := h
  obtain ⟨u, rfl, rx⟩ := vals1 r
  cases rx
  have hd := I.ok.hd hc
  rcases hq with hq | hq
  · obtain ⟨its, rv, pl, hz⟩ := I.list hq
    have hlen : its.toArray.size = ns.length := by rw [List.size_toArray, ← rv.length, List.length_map]
    refine PySem.call_set_list hd pl.isList (by simpa using RZ.intsAre_vals rv) (by rw [hlen]; unfold scanBound; omega) fun h' tk hS hk => ?_
    have hS' := PyProof.Rows.SetOf_congr (S' := fun k => decide (k ∈ ns)) hS (fun k => by rw [hlen, firstMet_mem ns k ns.length (Nat.le_refl _), List.take_length]) rfl
    exact ⟨.ref _, upd H s.heap.objs.size (.set (fun k => decide (k ∈ ns)) _), I.laid (t' := tk) (fun b o e => hk b o (Heap.lt_size e) e) (Nat.le_refl _) hS', rfl, q _ _ (I.hok.fresh (Nat.le_refl _))⟩
  · obtain ⟨its, rv, pt, hz⟩ := I.tuple hq
    refine call_set_tupI ns hd (show s.heap.IsTuple l its.toArray from pt) (by simpa using ints_of_vals rv) (by unfold scanBound; omega) fun h' tk c R1 hcn k => ?_
    exact ⟨.ref _, upd H s.heap.objs.size (.set (fun k => decide (k ∈ ns)) c), I.laid (t' := tk) k (Nat.le_refl _) R1.setOf, rfl, q _ _ (I.hok.fresh (Nat.le_refl _))⟩
def rInS : V → V → Hp → (V → Hp → Prop) → Prop := fun x y H Q => ∃ (k : Int) (a : Addr) (S : Int → Bool) (n : Nat), x = V.int k ∧ y = V.ref a ∧ H a = some (.set S n) ∧ Q (.bl (S k)) H
theorem or_inS {X : Cx} : OpR X (compareOp .In) rInS := by
  intro pins s σ H x y v u Q I rx ry h
  obtain ⟨k, a, S, n, rfl, rfl, ha, q⟩ := h
  obtain ⟨tk, rfl⟩ := rx
  cases ry
  exact wpAny_inSet_of (intKind_is _ _ _ _) rfl (I.hok a _ ha) ⟨.bl (S k), H, I.tok _, rfl, q⟩
theorem r_setOf {K : PySem.W.Frag} {l : Addr} {H : Hp} {Q : V → Hp → Prop} (ns : List Int) (h : SqL K H l (ns.map V.int) ∨ SqT K H l (ns.map V.int)) (hl : ns.length ≤ 4000) (q : ∀ (p : Addr) (c : Nat), H p = none → Q (.ref p) (upd H p (.set (fun k => decide (k ∈ ns)) c))) : rSetOf K [.ref l] H Q := ⟨l, ns, rfl, h, hl, q⟩
theorem r_inS {k : Int} {a : Addr} {S : Int → Bool} {n : Nat} {H : Hp} {Q : V → Hp → Prop} (h : H a = some (.set S n)) (q : Q (.bl (S k)) H) : rInS (.int k) (.ref a) H Q := ⟨k, a, S, n, rfl, rfl, h, q⟩
/-! ### enumerate of a list -/
def kIe (K : PySem.W.Frag) (R : It → Hp → Prop) : List V → Hp → Prop := fun vs H1 => ∃ a xs, vs = [.ref a] ∧ SqL K H1 a xs ∧ R (Ite K a) H1
theorem r_ienum {K : PySem.W.Frag} {ta : TA} {σ : L2.St} {H : Hp} {R : It → Hp → Prop} (h : ta σ H (kIe K R)) : iEnum K ta σ H R := h
theorem r_kIe {K : PySem.W.Frag} {a : Addr} {xs : List V} {H : Hp} {R : It → Hp → Prop} (h1 : SqL K H a xs) (h : R (Ite K a) H) : kIe K R [.ref a] H := ⟨a, xs, rfl, h1, h⟩
theorem r_forE {K : PySem.W.Frag} {a : Addr} {xs : List V} {σ : L2.St} {H : Hp} {D : Ends} {g : TG} {tb : TS} (Pv : Nat → L2.St → Hp → Prop) (h0 : Pv 0 σ H) (hl : ∀ i σ H, i ≤ xs.length → Pv i σ H → SqL K H a xs)
    (hs : ∀ (i : Nat) (x : V) (σ : L2.St) (H H' : Hp) (T : Addr), xs[i]? = some x → Pv i σ H → H T = none → upd H T (.tup [.int (i : Nat), x]) = H' → g (.ref T) σ H' fun σ2 H2 => tb { D with nx := Pv (i + 1), ct := Pv (i + 1), bk := D.nx } σ2 H2)
    (hd : ∀ σ H, Pv xs.length σ H → D.nx σ H) : kFor g tb D σ (Ite K a) H :=
  for_it walk_enum Pv h0 hl (fun i x σ H H' hlt p y => by
    obtain ⟨T, z, w, e1, e2, e3, e4, e5⟩ := y
    cases e4
    rw [e1]
    exact hs i w σ H H' T e5 p e2 e3.symm) hd
def SqI (K : PySem.W.Frag) (H : Hp) (l : Addr) (ns : List Int) : Prop := SqL K H l (ns.map V.int) ∨ SqT K H l (ns.map V.int)
theorem SqI.mono {K : PySem.W.Frag} {H H' : Hp} {l : Addr} {ns : List Int} (s : Same H H') (h : SqI K H l ns) : SqI K H' l ns := h.imp (fun h => s.seq h) (fun h => Same.tup s h)
theorem inV_ints (k : Int) : ∀ ns : List Int, inV (.int k) (ns.map V.int) = decide (k ∈ ns)
  | [] => rfl
  | n :: ns => by
    have ih := inV_ints k ns
    unfold inV at ih ⊢
    rw [List.map_cons, List.any_cons, ih]
    by_cases e : k = n
    · subst e
      simp [eqV]
    · have e' : ¬ n = k := fun z => e z.symm
      simp [eqV, e, e']
theorem flat_ints : ∀ ns : List Int, (ns.map V.int).all flatV = true
  | [] => rfl
  | n :: ns => by rw [List.map_cons, List.all_cons, flat_ints ns]; rfl

/-! ### enumerate of a tuple -/
theorem newEnum {v : Value} {ob : Obj} {G : Heap → Prop} (B : Begins v ob G) :
    Meets (Builtin.«enumerate.__new__» ⟨[.type "enumerate", v], []⟩) (fun _ R sh => G sh.heap ∧
      R (.ok (.ret (.ref (sh.heap.push ob).objs.size))) { sh with heap := (sh.heap.push ob).push { cls := .type "enumerate", data := .fields #[.none, .bool false, .ref sh.heap.objs.size, rawInt 0, .none, .none] } }) :=
  .of_wp fun prog w A R sh hh => by
    obtain ⟨hp, gn, dr, tk, os⟩ := sh
    obtain ⟨hG, hR⟩ := hh
    have sb := sub_enumerate
    have go : ∀ {A' : Around} {E : Value → Shared → Prop} {Q : Value → Shared → Prop}, Q (.ref hp.objs.size) ⟨hp.push ob, gn, dr, tk, os⟩ → wpAny (model prog w) A' (pyIter v) Q E ⟨hp, gn, dr, tk, os⟩ :=
      fun q => B.iter prog w _ _ ⟨hp, gn, dr, tk, os⟩ _ hG q
    wp_walk using go
    refine wpAny_stack_any fun _ => wpAny_pure ?_
    split
    · rename_i c _ _ _ _ _
      cases (c == Value.type "enumerate")
      all_goals
        wp_walk using go
        exact ⟨_, rfl, hR⟩
    · wp_walk using go
      exact ⟨_, rfl, hR⟩
theorem callEnum {prog : Program} {w : World} {A : Around} {E : Value → Shared → Prop} {s : Shared} {v : Value} {ob : Obj} {G : Heap → Prop} {Q : Value → Shared → Prop} (B : Begins v ob G) (h1 : G s.heap)
    (h : ∀ h', IsEnum h' (s.heap.objs.size + 1) s.heap.objs.size 0 .none → h'.get? s.heap.objs.size = some ob → (∀ b o, s.heap.get? b = some o → h'.get? b = some o) → Q (.ref (s.heap.objs.size + 1)) { s with heap := h' }) :
    wpAny (model prog w) A (call (.type "enumerate") [v]) Q E s := by
  refine callType_new F.called_enumerate (by decide) (F.typeCall_enumerate_1 _) (F.newCall_enumerate_1 _) (fun obj => F.args_object_init_2 obj _) F.entry_enumerate_new (newEnum B) ⟨h1, ?_⟩
  have z1 : (s.heap.push ob).objs.size = s.heap.objs.size + 1 := Heap.size_push ..
  show _ ∧ _
  rw [z1]
  have en : IsEnum ((s.heap.push ob).push { cls := .type "enumerate", data := .fields #[.none, .bool false, .ref s.heap.objs.size, rawInt 0, .none, .none] }) (s.heap.objs.size + 1) s.heap.objs.size 0 .none := by
    have q := Heap.get?_push_size (s.heap.push ob) (o := { cls := .type "enumerate", data := .fields #[.none, .bool false, .ref s.heap.objs.size, rawInt 0, .none, .none] }) rfl
    rw [z1] at q
    exact q
  exact ⟨⟨_, en, rfl⟩, h _ en (Heap.get?_push_of_some _ (Heap.get?_push_size _ B.free)) fun b o x => Heap.get?_push_of_some _ (Heap.get?_push_of_some _ x)⟩
def IteT (K : PySem.W.Frag) (a : Addr) : It :=
  ⟨fun i H => ∃ (xs : List V) (x : V), SqT K H a xs ∧ xs[i]? = some x,
   fun i H v H' => ∃ T x, v = .ref T ∧ H T = none ∧ H' = upd H T (.tup [.int (i : Nat), x]) ∧ ∀ xs, SqT K H a xs → xs[i]? = some x,
   fun i H => ∃ xs : List V, SqT K H a xs ∧ xs.length = i⟩
theorem turnEnumT {P : Program} {w : World} {K : PySem.W.Frag} {elts : List Expr} {kk : Nat} {tpos : Pos} (a en it : Addr) :
    Turn P w K (.Tuple elts kk tpos) (IteT K a) [en, it] en (fun i h => (∃ old, IsEnum h en it ((i : Nat) : Int) old) ∧ h.IsTupleIter it a i ∧ en ≠ it ∧ en ≠ a ∧ a ≠ it) where
  mem := by simp
  obj := fun i h st b hb => by
    obtain ⟨⟨old, q1⟩, ⟨o, q2, _, q3⟩, _⟩ := st
    have hb' : b = en ∨ b = it := by simpa using hb
    rcases hb' with rfl | rfl
    · exact ⟨_, q1, fun v q => nomatch q⟩
    · exact ⟨o, q2, fun v q => by rw [q3] at q; cases q⟩
  keep := fun i h h' st k => by
    obtain ⟨⟨old, q1⟩, q2, q3⟩ := st
    exact ⟨⟨old, k en (by simp) _ q1⟩, q2.at fun o q => k it (by simp) o q, q3⟩
  item := by
    intro X hP hw hK hc i pins s σ H E I hf st hg
    subst hP hw hK
    obtain ⟨⟨old, q1⟩, q2, q3, q4, q5⟩ := st
    obtain ⟨xs, x, sx, hx⟩ := hg
    obtain ⟨its, rv, pt, _⟩ := I.tuple sx
    obtain ⟨u, hu, ru⟩ := rv.get hx
    have l1 : en < s.heap.objs.size := Heap.lt_size q1
    have l2 : it < s.heap.objs.size := by
      obtain ⟨_, q, _⟩ := q2
      exact Heap.lt_size q
    have hlen : i < its.toArray.size := by
      have := (List.getElem?_eq_some_iff.mp hu).1
      simpa using this
    refine wpAny_pyNext_enum_itemC (Draws.tuple (A := X.A.in1) (I.ok.hd hc) it a q5 its.toArray) q1 ⟨q2, pt⟩ hlen q3 (by simp [q3, q4]) fun y h' tk hy ho hs' hT hsz hk => ?_
    have ey : y = u := by
      have z : its.toArray[i]? = some u := by simpa using hu
      exact Option.some.inj (hy.symm.trans z)
    subst ey
    refine ⟨_, rfl, wpAny_letOwnedTupleGo_enum (s := { s with heap := h', toks := tk + 1 }) ho fun h'' he' sb => ?_⟩
    have hT2 := (sb.2 _ (Nat.ne_of_gt l1)).trans hT
    have new : ObjOk X.prog X.w (upd H s.heap.objs.size (.tup [.int (i : Nat), x])) h'' s.heap.objs.size (.tup [.int (i : Nat), x]) :=
      ⟨by show 2 ≤ sizeLine; decide, [.int i tk, y], .cons ⟨_, rfl⟩ (.cons ru .nil), ⟨_, hT2, rfl, _, rfl⟩⟩
    have I1 : Inv X pins σ (upd H s.heap.objs.size (.tup [.int (i : Nat), x])) { s with heap := h'', toks := tk + 1 } :=
      I.turnedNew (ch := [en, it]) (fun b o nb q => (sb.2 b (fun z => nb (by simp [z]))).trans (hk b o (fun z => nb (by simp [z])) (fun z => nb (by simp [z])) q)) hf (Nat.le_refl _) new
    refine ⟨.ref s.heap.objs.size, _, I1, rfl, ⟨_, x, rfl, I.hok.fresh (Nat.le_refl _), rfl, fun ys hy => by rw [I.tuple_inj hy sx]; exact hx⟩, ⟨⟨y, ?_⟩, hs'.1.at fun o q => (sb.2 it (Ne.symm q3)).trans q, q3, q4, q5⟩, fun b hb => ?_⟩
    · have e1 : ((i + 1 : Nat) : Int) = (i : Int) + 1 := by omega
      rw [e1]
      exact he'
    · have lb : b < s.heap.objs.size := by
        have hb' : b = en ∨ b = it := by simpa using hb
        rcases hb' with rfl | rfl
        · exact l1
        · exact l2
      rw [upd_ne (Nat.ne_of_lt lb)]
      exact (hf b hb).1
  done := by
    intro X hP hw hK hc i pins s σ H E I hf st hg
    subst hP hw hK
    obtain ⟨⟨old, q1⟩, q2, q3, q4, q5⟩ := st
    obtain ⟨xs, sx, hx⟩ := hg
    obtain ⟨its, rv, pt, _⟩ := I.tuple sx
    have hl := rv.length
    obtain ⟨f0, f1, f2, f3, f4, f5⟩ := hf it (by simp)
    have ei : its.toArray.size = i := by
      rw [List.size_toArray]
      omega
    have q2' : s.heap.IsTupleIter it a its.toArray.size := by rw [ei]; exact q2
    exact wpAny_pyNext_enum_endD (Draws.tuple (A := X.A.in1) (I.ok.hd hc) it a q5 its.toArray) q1 ⟨q2', pt⟩ fun h' eb => ⟨rfl, I.turned (t' := s.toks) (fun b o hb q => eb b o hb q) f0 f1 f3 f4 f5⟩
  self := fun A i s Q E st h => by
    obtain ⟨⟨_, q1⟩, _⟩ := st
    exact wpAny_pyIter_enum q1 h
/-- enumerate of a list or of a tuple -/
def iEnumA (K : PySem.W.Frag) (ta : TA) : TI := fun σ H R => ta σ H fun vs H1 => ∃ a xs, vs = [.ref a] ∧ ((SqL K H1 a xs ∧ R (Ite K a) H1) ∨ (SqT K H1 a xs ∧ R (IteT K a) H1))
theorem pi_enumA {X : Cx} {e : Expr} {ta : TA} {p pos tpos : Pos} {elts : List Expr} {kk : Nat} (hg : Gl X "enumerate") (hm : X.mg "enumerate" = none) (ha : PA X [e] ta) (hs : starEach [e] X.env = [(false, eval e X.env)] := by rfl) :
    PI X (.Tuple elts kk tpos) (.Call (.Name "enumerate" p) [e] [] pos) (iEnumA X.K ta) := by
  refine ⟨fun pins s σ H R I h => ?_⟩
  refine PyProof.Rows.Call_ (ld_blt I hg hm PyProof.Rows.boot_enumerate (PyProof.Rows.callWith_type1 (thn (ha.run pos pins s σ H _ I h) fun us s1 ⟨vs, H1, I1, r1, q1⟩ => ?_) hs rfl))
  obtain ⟨a, xs, ex, q1⟩ := q1
  subst ex
  cases r1 with
  | cons r rr =>
    cases rr
    cases r
    have fr : ∀ b ∈ [s1.heap.objs.size + 1, s1.heap.objs.size], FpOk X pins H1 b := fun b hb => by
      have hb' : b = s1.heap.objs.size + 1 ∨ b = s1.heap.objs.size := by simpa using hb
      have hle : s1.heap.objs.size ≤ b := by
        rcases hb' with z | z
        · rw [z]; exact Nat.le_add_right _ _
        · exact Nat.le_of_eq z.symm
      exact I1.fpOk hle (I1.hok.fresh hle)
    rcases q1 with ⟨sx, q⟩ | ⟨sx, q⟩
    · obtain ⟨its, rv, pl, _⟩ := I1.list sx
      refine callEnum (begins_list a its.toArray) pl.isList fun h' he ho hk => wpAny_pyIter_enum he ?_
      have I2 : Inv X pins σ H1 { s1 with heap := h' } := I1.kept (t' := s1.toks) hk
      exact ⟨s1.heap.objs.size + 1, [s1.heap.objs.size + 1, s1.heap.objs.size], _, _, H1, rfl, I2, turn_enum a (s1.heap.objs.size + 1) s1.heap.objs.size, ⟨⟨.none, he⟩, ⟨_, ho, rfl, rfl⟩, Nat.succ_ne_self _⟩, fr, q⟩
    · obtain ⟨its, rv, pt, _⟩ := I1.tuple sx
      obtain ⟨oa, hoa, _⟩ := id pt
      have la : a < s1.heap.objs.size := Heap.lt_size hoa
      refine callEnum (begins_tuple a its.toArray) (show s1.heap.IsTuple a its.toArray from pt) fun h' he ho hk => wpAny_pyIter_enum he ?_
      have I2 : Inv X pins σ H1 { s1 with heap := h' } := I1.kept (t' := s1.toks) hk
      exact ⟨s1.heap.objs.size + 1, [s1.heap.objs.size + 1, s1.heap.objs.size], _, _, H1, rfl, I2, turnEnumT a (s1.heap.objs.size + 1) s1.heap.objs.size, ⟨⟨.none, he⟩, ⟨_, ho, rfl, rfl⟩, Nat.succ_ne_self _, Nat.ne_of_gt (Nat.lt_succ_of_lt la), Nat.ne_of_lt la⟩, fr, q⟩
theorem walk_enumT {K : PySem.W.Frag} {a : Addr} {xs : List V} : Walk (IteT K a) xs.length (fun H => SqT K H a xs) (YPair (fun i => some (.int (i : Nat))) (fun i => xs[i]?)) := by
  refine ⟨fun i _ hi q => ⟨xs, xs[i], q, by simp [hi]⟩, fun _ q => ⟨xs, q, rfl⟩, fun i H v H' _ q y => ?_⟩
  obtain ⟨T, x, y1, y2, y3, y4⟩ := y
  exact ⟨T, .int (i : Nat), x, y1, y2, y3, rfl, y4 xs q⟩
def kIeA (K : PySem.W.Frag) (R : It → Hp → Prop) : List V → Hp → Prop := fun vs H1 => ∃ a xs, vs = [.ref a] ∧ ((SqL K H1 a xs ∧ R (Ite K a) H1) ∨ (SqT K H1 a xs ∧ R (IteT K a) H1))
theorem r_ienumA {K : PySem.W.Frag} {ta : TA} {σ : L2.St} {H : Hp} {R : It → Hp → Prop} (h : ta σ H (kIeA K R)) : iEnumA K ta σ H R := h
theorem r_kIeL {K : PySem.W.Frag} {a : Addr} {xs : List V} {H : Hp} {R : It → Hp → Prop} (h1 : SqL K H a xs) (h : R (Ite K a) H) : kIeA K R [.ref a] H := ⟨a, xs, rfl, .inl ⟨h1, h⟩⟩
theorem r_kIeT {K : PySem.W.Frag} {a : Addr} {xs : List V} {H : Hp} {R : It → Hp → Prop} (h1 : SqT K H a xs) (h : R (IteT K a) H) : kIeA K R [.ref a] H := ⟨a, xs, rfl, .inr ⟨h1, h⟩⟩
theorem r_forET {K : PySem.W.Frag} {a : Addr} {xs : List V} {σ : L2.St} {H : Hp} {D : Ends} {g : TG} {tb : TS} (Pv : Nat → L2.St → Hp → Prop) (h0 : Pv 0 σ H) (hl : ∀ i σ H, i ≤ xs.length → Pv i σ H → SqT K H a xs)
    (hs : ∀ (i : Nat) (x : V) (σ : L2.St) (H H' : Hp) (T : Addr), xs[i]? = some x → Pv i σ H → H T = none → upd H T (.tup [.int (i : Nat), x]) = H' → g (.ref T) σ H' fun σ2 H2 => tb { D with nx := Pv (i + 1), ct := Pv (i + 1), bk := D.nx } σ2 H2)
    (hd : ∀ σ H, Pv xs.length σ H → D.nx σ H) : kFor g tb D σ (IteT K a) H :=
  for_it walk_enumT Pv h0 hl (fun i x σ H H' hlt p y => by
    obtain ⟨T, z, w, e1, e2, e3, e4, e5⟩ := y
    cases e4
    rw [e1]
    exact hs i w σ H H' T e5 p e2 e3.symm) hd

theorem pi_enumAK {X : Cx} (K : PySem.W.Frag) (h : X.K = K) {e : Expr} {ta : TA} {p pos tpos : Pos} {elts : List Expr} {kk : Nat} (hg : Gl X "enumerate") (hm : X.mg "enumerate" = none) (ha : PA X [e] ta) (hs : starEach [e] X.env = [(false, eval e X.env)] := by rfl) :
    PI X (.Tuple elts kk tpos) (.Call (.Name "enumerate" p) [e] [] pos) (iEnumA K ta) := by subst h; exact pi_enumA hg hm ha hs
/-! ### the blocks that are written, by a generator that is walked -/
def wrt (xs : List V) (n : Nat) : List (Int × V) := ((List.range n).filter fun i => decide (xs.getD i .non ≠ .non)).map fun i : Nat => ((i : Int), xs.getD i .non)
theorem wrt_none {xs : List V} {i : Nat} {x : V} (h : xs[i]? = some x) (c : x = .non) : wrt xs (i + 1) = wrt xs i := by
  unfold wrt
  rw [List.range_succ, List.filter_append, List.filter_cons, if_neg (by rw [List.getD_eq_getElem?_getD, h, c]; simp), List.filter_nil, List.append_nil]
theorem wrt_some {xs : List V} {i : Nat} {x : V} (h : xs[i]? = some x) (c : x ≠ .non) : wrt xs (i + 1) = wrt xs i ++ [((i : Int), x)] := by
  have e : xs.getD i .non = x := by rw [List.getD_eq_getElem?_getD, h]; rfl
  unfold wrt
  rw [List.range_succ, List.filter_append, List.filter_cons, if_pos (by rw [e]; exact decide_eq_true c), List.filter_nil, List.map_append]
  show _ ++ [((i : Int), xs.getD i .non)] = _
  rw [e]
theorem wrt_len (xs : List V) (n : Nat) : (wrt xs n).length ≤ n := by
  unfold wrt
  rw [List.length_map]
  have := List.length_filter_le (fun i => decide (xs.getD i .non ≠ .non)) (List.range n)
  rw [List.length_range] at this
  exact this
theorem wrt_pre {xs : List V} : ∀ {n m : Nat}, n ≤ m → ∃ r, wrt xs m = wrt xs n ++ r := by
  intro n m h
  induction m with
  | zero => exact ⟨[], by rw [show n = 0 by omega]; rfl⟩
  | succ m ih =>
    rcases Nat.lt_or_ge n (m + 1) with h1 | h1
    · obtain ⟨r, e⟩ := ih (by omega)
      unfold wrt at e ⊢
      rw [List.range_succ, List.filter_append, List.map_append, e, List.append_assoc]
      exact ⟨_, rfl⟩
    · exact ⟨[], by rw [show n = m + 1 by omega, List.append_nil]⟩
theorem wrt_mem {xs : List V} {n : Nat} {p : Int × V} (h : p ∈ wrt xs n) (hn : n ≤ xs.length) : ∃ i : Nat, p.1 = (i : Int) ∧ i < n ∧ xs[i]? = some p.2 ∧ p.2 ≠ .non := by
  unfold wrt at h
  obtain ⟨i, hi, rfl⟩ := List.mem_map.mp h
  obtain ⟨h1, h2⟩ := List.mem_filter.mp hi
  have h1 := List.mem_range.mp h1
  refine ⟨i, rfl, h1, ?_, of_decide_eq_true h2⟩
  show xs[i]? = some (xs.getD i .non)
  rw [List.getD_eq_getElem?_getD, List.getElem?_eq_getElem (by omega)]
  rfl
/-- a pair that is handed out -/
def PairR (p : Int × V) (x : V) (H : Hp) : Prop := ∃ a : Addr, x = .ref a ∧ H a = some (.tup [.int p.1, p.2])
def wrtF (C d dx : Addr) (fs : List (Str × V)) (sh : Addr) (xs : List V) (H : Hp) : Prop := H d = some (.ins C dx fs) ∧ H sh = some (.lst xs)
def sp_written (C : Addr) : Wk.SpW := fun vs H J B => ∃ (d dx : Addr) (fs : List (Str × V)) (sh : Addr) (xs : List V), vs = [.ref d] ∧ fs.lookup ("_shown" : Str) = some (.ref sh) ∧ xs.length ≤ 1000 ∧ J = seqJ (wrtF C d dx fs sh xs) (wrt xs xs.length) PairR ∧ B = (wrt xs xs.length).length
theorem ok_Device_written_blocks (T : Txt K mg) : Wk.GFnW P w K mg base 1 T.a_Device_written_blocks T.fd_Device_written_blocks ["self"] (sp_written T.A_Device) := by
  refine Wk.gfnw_mk T.F_Device_written_blocks sc_Device_written_blocks (fun _ => rfl) (fun vs H J B h => ?_) (fun cdv A outer s H vs J B hr h => ?_)
  · obtain ⟨d, dx, fs, sh, xs, rfl, _⟩ := h
    rfl
  · obtain ⟨d, dx, fs, sh, xs, rfl, lks, hl, rfl, rfl⟩ := h
    refine ⟨_, (Wk.wss_cons (Wk.ws_for (g := (gTup K 2 (gCons (gName 1) (gCons (gName 2) gNil)))) rfl (fun γ => (pi_enumAK K rfl (by rfl) T.n_enumerate (pa_cons (pe_fldK K rfl (pv 0) rfl) pa_nil))) (fun γ => (pg_tup (by rfl) (pgs_cons (pg_name (i := 1) sc_Device_written_blocks.nd rfl (Or.inl rfl)) (pgs_cons (pg_name (i := 2) sc_Device_written_blocks.nd rfl (Or.inl rfl)) pgs_nil))))
       (Wk.wss_cons (Wk.ws_if (fun γ => (pt_cmp (pc_notN (pv 2)) rfl))
       (Wk.wss_cons (Wk.ws_yield (fun γ => (pe_tup (pa_cons (pv 1) (pa_cons (pv 2) pa_nil)))) rfl rfl)
       Wk.wss_nil)
       Wk.wss_nil)
       Wk.wss_nil) (by intro _; rfl))
       Wk.wss_nil), fun γ hγ ok => ?_⟩
    obtain ⟨od, os⟩ := ok
    have cl := T.cl_Device
    have na1 := T.na_Device__shown
    refine r_wthen ?_
    refine r_wfor ?_
    refine r_ienumA ?_
    walk_at "go"
    refine r_kIeL (.of os) ?_
    refine r_wforE (xs := xs) (fun i γ' σ' H' => ∃ (v1 v2 : Option V), σ' = [some (.ref d), v1, v2] ∧ Same γ'.H H' ∧ wrtF T.A_Device d dx fs sh xs γ'.H ∧ γ'.i = (wrt xs i).length) ⟨_, _, rfl, Same.refl _, ⟨od, os⟩, hγ⟩ (fun i γ' σ' H' _ ⟨_, _, _, s, f, _⟩ => .of (s _ _ f.2)) ?_ ?_
    · rintro i x γ1 σ' H1 H2 tp hx ⟨v1, v2, rfl, s1, f1, e1⟩ nT hH
      have s2 : Same H1 H2 := Sg.Same.of_new hH nT
      have hT : H2 tp = some (.tup [.int (i : Nat), x]) := Sg.at_new hH
      have hil := (List.getElem?_eq_some_iff.mp hx).1
      walk_at "go"
      refine r_wthen ?_
      refine r_wif ?_
      walk_at "go"
      refine to_ite (fun hc => ?_) (fun hc => ?_)
      · have hc' : x ≠ .non := by simpa using hc
        have ew := wrt_some hx hc'
        obtain ⟨r, er⟩ := wrt_pre (xs := xs) (show i + 1 ≤ xs.length from hil)
        refine r_wthen ?_
        refine r_wyield (by
          rw [e1, er, ew]
          simp only [List.length_append, List.length_cons, List.length_nil]
          omega) ?_
        walk_at "go"
        rename_i p np H3 s3 g3
        have s13 := s1.trans (s2.trans s3)
        refine r_kwy (Wk.Tame.same s13) ⟨s13, (((i : Nat) : Int), x), ?_, p, rfl, g3⟩ ?_
        · show (wrt xs xs.length)[γ1.i]? = some ((i : Int), x)
          rw [er, ew, e1, List.append_assoc, List.getElem?_append_right (Nat.le_refl _), Nat.sub_self]
          rfl
        · intro γ' hi' ok'
          refine r_w0 ?_
          refine r_w0 ?_
          refine ⟨_, _, rfl, Same.refl _, ok', ?_⟩
          rw [hi', e1, ew, List.length_append]
          rfl
      · have hc' : x = .non := by simpa using hc
        refine r_w0 ?_
        refine r_w0 ?_
        exact ⟨_, _, rfl, s1.trans s2, f1, by rw [wrt_none hx hc']; exact e1⟩
    · rintro γ1 σ' H1 ⟨v1, v2, rfl, s1, f1, e1⟩
      exact r_w0 (r_wdone (Wk.Tame.same s1) ⟨e1, s1⟩)

theorem r_forEA {K : PySem.W.Frag} {a : Addr} {ids : List Int} {σ : L2.St} {H : Hp} {D : Ends} {g : TG} {tb : TS} {Hb : Hp} (h : SqI K Hb a ids) (hb : Same Hb H) (Pv : Nat → L2.St → Hp → Prop) (h0 : Pv 0 σ H) (hk : ∀ i σ H', Pv i σ H' → Same Hb H')
    (hs : ∀ (i : Nat) (z : Int) (σ : L2.St) (H H' : Hp) (T : Addr), ids[i]? = some z → Pv i σ H → H T = none → upd H T (.tup [.int (i : Nat), .int z]) = H' → g (.ref T) σ H' fun σ2 H2 => tb { D with nx := Pv (i + 1), ct := Pv (i + 1), bk := D.nx } σ2 H2)
    (hd : ∀ σ H, Pv ids.length σ H → D.nx σ H) : kIeA K (kFor g tb D σ) [.ref a] H := by
  have hs' : ∀ (i : Nat) (x : V) (σ : L2.St) (H H' : Hp) (T : Addr), (ids.map V.int)[i]? = some x → Pv i σ H → H T = none → upd H T (.tup [.int (i : Nat), x]) = H' → g (.ref T) σ H' fun σ2 H2 => tb { D with nx := Pv (i + 1), ct := Pv (i + 1), bk := D.nx } σ2 H2 := fun i x σ H H' T hx p n e => by
    rw [List.getElem?_map] at hx
    obtain ⟨z, hz, rfl⟩ := Option.map_eq_some_iff.mp hx
    exact hs i z σ H H' T hz p n e
  have hd' : ∀ σ H, Pv (ids.map V.int).length σ H → D.nx σ H := fun σ H p => hd σ H (by rw [List.length_map] at p; exact p)
  rcases h with h | h
  · exact r_kIeL (hb.seq h) (r_forE Pv h0 (fun i σ H' _ p => (hk i σ H' p).seq h) hs' hd')
  · exact r_kIeT (Same.tup hb h) (r_forET Pv h0 (fun i σ H' _ p => Same.tup (hk i σ H' p) h) hs' hd')
/-- [e for i, x in enumerate(list)], e an int -/
theorem r_lcE {K : PySem.W.Frag} {a : Addr} {xs : List V} {g : TG} {te : TE} {vs : List Nat} {σ : L2.St} {H : Hp} {Q : V → Hp → Prop} (P : Nat → Int → Prop) (hx : SqL K H a xs) (hn : xs.length ≤ 100000)
    (hs : ∀ (i : Nat) (x : V) (H' H'' : Hp) (T : Addr), xs[i]? = some x → L2.Same H H' → H' T = none → upd H' T (.tup [.int (i : Nat), x]) = H'' → ∀ R : V → Hp → Prop, (∀ z : Int, P i z → R (.int z) H'') → g (.ref T) (wipe σ vs) H'' fun σ2 H2 => wipe σ2 vs = wipe σ vs ∧ te σ2 H2 R)
    (q : ∀ (H' : Hp) (l : Addr) (zs : List Int), L2.Same H H' → H l = none → H' l = some (.lst (zs.map V.int)) → zs.length = xs.length → (∀ (i : Nat) (z : Int), zs[i]? = some z → P i z) → Q (.ref l) H') :
    kLc g tYes te vs σ Q (Ite K a) H := by
  intro L hL
  refine lc_it (walk_enum (K := K) (a := a) (xs := xs)) (fun i H' => ∃ zs : List Int, zs.length = i ∧ H' L = some (.lst (zs.map V.int)) ∧ L2.Same H H' ∧ ∀ (k : Nat) (z : Int), zs[k]? = some z → P k z)
    ⟨[], rfl, upd_same, fun b o e => by rw [upd_ne (ne_of_none e hL)]; exact e, fun k z e => by simp at e⟩ ?_ ?_ ?_
  · rintro i H' _ ⟨zs, el, eL, s, hp⟩
    exact s.seq hx
  · rintro i x H' H'' hi ⟨zs, el, eL, s, hp⟩ ⟨T, y, z, e1, nT, e3, e4, e5⟩
    cases e4
    subst e1
    have sT := Same.of_new e3.symm nT
    have k := hs i z H' H'' T e5 s nT e3.symm (fun y H4 => ∃ acc, H4 L = some (.lst acc) ∧ acc.length < sizeLine ∧ ∃ zs : List Int, zs.length = i + 1 ∧ (upd H4 L (.lst (acc ++ [y]))) L = some (.lst (zs.map V.int)) ∧ L2.Same H (upd H4 L (.lst (acc ++ [y]))) ∧ ∀ (k : Nat) (z : Int), zs[k]? = some z → P k z)
      (fun y hy => ⟨_, sT _ _ eL, by rw [List.length_map, el, sz]; omega, zs ++ [y], by rw [List.length_append, el]; rfl, by rw [upd_same, List.map_append]; rfl, fun b o e => by rw [upd_ne (ne_of_none e hL)]; exact sT _ _ (s _ _ e), fun k z e => by
        rw [List.getElem?_append] at e
        split at e
        · exact hp k z e
        · have hk : k < (zs ++ [y]).length := by
            have := (List.getElem?_eq_some_iff.mp e).1
            simp at this ⊢
            omega
          have ek : k = zs.length := by simp at hk; omega
          subst ek
          simp at e
          rw [el, ← e]
          exact hy⟩)
    exact k
  · rintro H' ⟨zs, el, eL, s, hp⟩
    exact q H' L zs s hL eL el hp
/-- what a commit makes of the table -/
def commitN (table : List Int) (start : Int) (ids : List Int) : Nat → List Int
  | 0 => table
  | i + 1 => if 0 < ids.getD i 0 ∧ ids.getD i 0 < table.length then (commitN table start ids i).set (ids.getD i 0).toNat (start + i) else commitN table start ids i
theorem commitN_len {table : List Int} {start : Int} {ids : List Int} : ∀ n, (commitN table start ids n).length = table.length
  | 0 => rfl
  | n + 1 => by
    rw [commitN]
    split
    · rw [List.length_set, commitN_len n]
    · exact commitN_len n
def sp_commit (K : PySem.W.Frag) : Sp := fun vs H Q _ => ∃ (t i u : Addr) (table ids used : List Int) (start : Int), vs = [.ref t, .int start, .ref i, .ref u] ∧ SqL K H t (table.map V.int) ∧ SqI K H i ids ∧ SqI K H u used ∧ table.length ≤ 4000 ∧ used.length ≤ 4000 ∧
  ∀ (H' : Hp) (l : Addr) (zs : List Int), Same H H' → H l = none → H' l = some (.lst (zs.map V.int)) → zs.length = table.length → (∀ (k : Nat) (z : Int), zs[k]? = some z → z = if (k : Int) ∈ used then (commitN table start ids ids.length).getD k 0 else 0) → Q (.ref l) H'
theorem ok_commit_to_table (T : Txt K mg) : FnOk P w K mg base CX0 1 T.a_commit_to_table T.fd_commit_to_table ["table", "start", "ids", "used"] (sp_commit K) := by
  refine T.F_commit_to_table.ok sc_commit_to_table (fun vs H Q E h => ?_) (fun cdv A outer s H vs Q E hr h => ?_)
  · obtain ⟨t, i, u, table, ids, used, start, rfl, _⟩ := h
    rfl
  · refine ⟨_, (pss_cons (ps_set (i := 4) sc_commit_to_table.nd rfl (Or.inr rfl) (pe_callTy (c_set rfl) (by rfl) T.n_set (by decide +kernel) (pa_cons (pv 3) pa_nil)))
       (pss_cons (ps_set (i := 5) sc_commit_to_table.nd rfl (Or.inl rfl) (pe_callTy c_list (by rfl) T.n_list (by decide +kernel) (pa_cons (pv 0) pa_nil)))
       (pss_cons (ps_for PassesOwn.never rfl (pi_enumA (by rfl) T.n_enumerate (pa_cons (pv 2) pa_nil)) (pg_tup (by rfl) (pgs_cons (pg_name (i := 6) sc_commit_to_table.nd rfl (Or.inl rfl)) (pgs_cons (pg_name (i := 7) sc_commit_to_table.nd rfl (Or.inl rfl)) pgs_nil)))
       (pss_one (ps_if (pt_chain op_lt op_lt pe_int (pv 7) (pe_callB (c_len) (by rfl) T.n_len (by decide +kernel) (pa_cons (pv 0) pa_nil)))
       (pss_one (ps_asg (pe_op op_add (pv 1) (pv 6)) (pg_sub (pv 5) (pv 7) set_list)))
       pss_nil)))
       (pss_one (ps_ret (pe_lc (own := [("ident", 7), ("address", 8)]) (g := gTup K 2 (gCons (gName 7) (gCons (gName 8) gNil))) (tt := tYes) rfl sc_commit_to_table.nd (pi_enumA (by rfl) T.n_enumerate (pa_cons (pv 5) pa_nil)) (blkOk_by (own := [("ident", 7), ("address", 8)]) (N := n_commit_to_table) (sc := defScope s_commit_to_table) (by decide +kernel)) (fun _ _ _ _ _ => (pg_tup (by rfl) (pgs_cons (pg_name (i := 7) sc_commit_to_table.nd rfl (Or.inl rfl)) (pgs_cons (pg_name (i := 8) sc_commit_to_table.nd rfl (Or.inl rfl)) pgs_nil)))) (fun _ _ _ _ _ => pts_nil) (fun _ _ _ _ _ => (pe_ifExp (pt_cmpR or_inS (pv 7) (pv 4) (by with_unfolding_all rfl)) (pv 8) pe_int)))))))), ?_⟩
    try dsimp only [cxOf, Cx.nox, Cx.wish]
    obtain ⟨t, i, u, table, ids, used, start, rfl, ht, hi, hu, lt, lu, q⟩ := h
    walk_at "rd"
    refine r_setOf used hu lu (fun pk ck npk => ?_)
    generalize hH1 : upd _ _ _ = H1
    have s1 := Same.of_new hH1 npk
    have a1 := Sg.at_new hH1
    walk_at "rd"
    rename_i pb npb H2 s2 hb
    refine r_ienumA ?_
    walk_at "rd"
    have s12 := s1.trans s2
    have nb0 : H pb = none := s1.free npb
    have a2 := s2 _ _ a1
    refine r_forEA hi s12 (fun j σ' H' => ∃ v6 v7 : Option V, σ' = [some (.ref t), some (.int start), some (.ref i), some (.ref u), some (.ref pk), some (.ref pb), v6, v7, none] ∧ Same H H' ∧ H' pk = some (.set (fun k => decide (k ∈ used)) ck) ∧ H' pb = some (.lst ((commitN table start ids j).map V.int))) ?_ ?_ ?_ ?_
    · exact ⟨_, _, rfl, s12, a2, hb⟩
    · rintro j σ' H' ⟨v6, v7, rfl, sH, _⟩
      exact sH
    · rintro j z σ' H' H'' T' hz ⟨v6, v7, rfl, sH, hpk, hpb⟩ nT hT
      have sT := Same.of_new hT nT
      have aT := Sg.at_new hT
      have hpk' := sT _ _ hpk
      have hpb' : True ∧ H'' pb = some (.lst ((commitN table start ids j).map V.int)) := ⟨trivial, sT _ _ hpb⟩
      have sH' := sH.trans sT
      have ht' : SqL K H'' t (table.map V.int) := sH'.seq ht
      have ez : ids.getD j 0 = z := by rw [List.getD_eq_getElem?_getD, hz]; rfl
      have es : commitN table start ids (j + 1) = if 0 < z ∧ z < table.length then (commitN table start ids j).set z.toNat (start + j) else commitN table start ids j := by
        rw [commitN, ez]
      clear hpb sT sH hT
      walk_at "rd"
      refine r_ite (fun c1 => ?_) (fun c1 => ?_)
      · walk_at "rd"
        rw [List.length_map]
        refine r_ite (fun c2 => ?_) (fun c2 => ?_)
        · walk_at "rd"
          refine r_setl hpb'.2 (ixN_ok (by omega) (by rw [List.length_map, commitN_len]; omega)) ?_
          refine ⟨_, _, rfl, Same.old sH' nb0 rfl, ?_, ?_⟩
          · rw [upd_ne (ne_of hpk' hpb'.2 (by intro z; cases z))]
            exact hpk'
          · rw [upd_same, set_ints, es, if_pos ⟨c1, c2⟩]
        · walk_at "rd"
          refine ⟨_, _, rfl, sH', hpk', ?_⟩
          rw [es, if_neg (fun z => c2 z.2)]
          exact hpb'.2
      · walk_at "rd"
        refine ⟨_, _, rfl, sH', hpk', ?_⟩
        rw [es, if_neg (fun z => c1 z.1)]
        exact hpb'.2
    · rintro σ' H' ⟨v6, v7, rfl, sH, hpk, hpb⟩
      walk_at "rd"
      refine r_ienumA ?_
      walk_at "rd"
      refine r_kIeL (.of hpb) ?_
      have lc := commitN_len (table := table) (start := start) (ids := ids) ids.length
      generalize commitN table start ids ids.length = cs at hpb lc q
      refine r_lcE (xs := cs.map V.int) (fun k z => z = if (k : Int) ∈ used then cs.getD k 0 else 0) (.of hpb) (by rw [List.length_map]; omega) ?_ ?_
      · intro k x H2' H3' T' hx s' nT hT R hR
        rw [List.getElem?_map] at hx
        obtain ⟨z, hz, rfl⟩ := Option.map_eq_some_iff.mp hx
        have sT := Same.of_new hT nT
        have aT := Sg.at_new hT
        have hpk' := sT _ _ (s' _ _ hpk)
        have ez : cs.getD k 0 = z := by rw [List.getD_eq_getElem?_getD, hz]; rfl
        walk_at "rd"
        refine ⟨rfl, ?_⟩
        walk_at "rd"
        refine r_inS hpk' ?_
        walk_at "rd"
        refine r_ite (fun c => ?_) (fun c => ?_)
        · walk_at "rd"
          exact hR _ (by rw [if_pos c, ez])
        · walk_at "rd"
          exact hR _ (by rw [if_neg c])
      · intro H2' l zs s' nl hl el hz
        walk_at "rd"
        rw [List.length_map] at el
        exact q _ l zs (sH.trans s') (sH.free nl) hl (by omega) hz

/-! ### [e for x in xs], xs and e ints -/
theorem r_lcLI {K : PySem.W.Frag} {a : Addr} {ns : List Int} {slot : Nat} {vs : List Nat} {te : TE} {σ : L2.St} {H : Hp} {Q : V → Hp → Prop} (P : Nat → Int → Prop) (hx : SqL K H a (ns.map V.int)) (hn : ns.length ≤ 100000) (hv : vs = [slot])
    (hs : ∀ (i : Nat) (x : Int) (H' : Hp), ns[i]? = some x → L2.Same H H' → ∀ R : V → Hp → Prop, (∀ z : Int, P i z → R (.int z) H') → te ((wipe σ vs).set slot (some (.int x))) H' R)
    (q : ∀ (H' : Hp) (l : Addr) (zs : List Int), L2.Same H H' → H l = none → H' l = some (.lst (zs.map V.int)) → zs.length = ns.length → (∀ (i : Nat) (z : Int), zs[i]? = some z → P i z) → Q (.ref l) H') :
    kLc (gName slot) tYes te vs σ Q (Itl K a) H := by
  refine r_lcL (xs := ns.map V.int) (fun i acc _ => ∃ zs : List Int, acc = zs.map V.int ∧ zs.length = i ∧ ∀ (k : Nat) (z : Int), zs[k]? = some z → P k z) hx (by rw [List.length_map]; exact hn) hv ⟨[], rfl, rfl, fun k z e => by simp at e⟩ ?_ ?_
  · rintro i x acc H0 H' hx s0 ⟨zs, rfl, el, hp⟩ s1 R hR
    rw [List.getElem?_map] at hx
    obtain ⟨y, hy, rfl⟩ := Option.map_eq_some_iff.mp hx
    refine hs i y H' hy (s0.trans s1) R fun z hz => hR _ _ (L2.Same.refl _) fun D _ _ => ⟨zs ++ [z], by rw [List.map_append]; rfl, by rw [List.length_append, el]; rfl, fun k u e => ?_⟩
    rw [List.getElem?_append] at e
    split at e
    · exact hp k u e
    · have hk : k < (zs ++ [z]).length := by
        rename_i hnk
        have := (List.getElem?_eq_some_iff.mp e).1
        simp at this ⊢
        omega
      have ek : k = zs.length := by
        rename_i hnk
        simp at hk
        omega
      subst ek
      simp at e
      rw [el, ← e]
      exact hz
  · rintro H' l acc s nl hl el ⟨zs, rfl, e2, hp⟩
    exact q H' l zs s nl hl (by rw [e2, List.length_map]) hp

/-! ### the first place of a number -/
def firstAt (ids : List Int) (k : Int) : Nat → Option Nat
  | 0 => none
  | i + 1 => match firstAt ids k i with
    | some j => some j
    | none => if ids.getD i 0 = k then some i else none
theorem firstAt_some {ids : List Int} {k : Int} : ∀ {i j : Nat}, firstAt ids k i = some j → j < i ∧ ids.getD j 0 = k ∧ ∀ m, m < j → ids.getD m 0 ≠ k
  | 0, j, h => by cases h
  | i + 1, j, h => by
    unfold firstAt at h
    cases e : firstAt ids k i with
    | some j' =>
      rw [e] at h
      cases h
      obtain ⟨a, b, c⟩ := firstAt_some e
      exact ⟨by omega, b, c⟩
    | none =>
      rw [e] at h
      have h : (if ids.getD i 0 = k then some i else none) = some j := h
      by_cases c : ids.getD i 0 = k
      · rw [if_pos c] at h
        cases h
        exact ⟨by omega, c, fun m hm => firstAt_none e m hm⟩
      · rw [if_neg c] at h
        cases h
where firstAt_none {ids : List Int} {k : Int} : ∀ {i : Nat}, firstAt ids k i = none → ∀ m, m < i → ids.getD m 0 ≠ k
  | 0, _, m, hm => by omega
  | i + 1, h, m, hm => by
    unfold firstAt at h
    cases e : firstAt ids k i with
    | some j' => rw [e] at h; cases h
    | none =>
      rw [e] at h
      have h : (if ids.getD i 0 = k then some i else none) = none := h
      by_cases c : ids.getD i 0 = k
      · rw [if_pos c] at h
        cases h
      · by_cases em : m = i
        · subst em; exact c
        · exact firstAt_none e m (by omega)
theorem firstAt_mem {ids : List Int} {k : Int} (h : k ∈ ids) : ∃ j, firstAt ids k ids.length = some j := by
  cases e : firstAt ids k ids.length with
  | some j => exact ⟨j, rfl⟩
  | none =>
    obtain ⟨m, hm, rfl⟩ := List.mem_iff_getElem.mp h
    exact absurd (by rw [List.getD_eq_getElem?_getD, List.getElem?_eq_getElem hm]; rfl) (firstAt_some.firstAt_none e m hm)
theorem firstAt_not {ids : List Int} {k : Int} (h : ¬ k ∈ ids) : firstAt ids k ids.length = none := by
  cases e : firstAt ids k ids.length with
  | none => rfl
  | some j =>
    obtain ⟨a, b, _⟩ := firstAt_some e
    refine absurd ?_ h
    rw [← b, List.getD_eq_getElem?_getD, List.getElem?_eq_getElem a]
    exact List.getElem_mem a
/-- where an address goes -/
def moveOf (start : Int) (ids : List Int) (a : Int) : Int := if a = 0 then 0 else match firstAt ids a ids.length with
  | some j => start + j
  | none => a
def sp_move (K : PySem.W.Frag) : Sp := fun vs H Q _ => ∃ (t i : Addr) (table ids : List Int) (start : Int), vs = [.ref t, .int start, .ref i] ∧ SqL K H t (table.map V.int) ∧ SqI K H i ids ∧ table.length ≤ 4000 ∧ ids.length ≤ 4000 ∧
  ∀ (H' : Hp) (l : Addr) (zs : List Int), Same H H' → H l = none → H' l = some (.lst (zs.map V.int)) → zs.length = table.length → (∀ (k : Nat) (z : Int), zs[k]? = some z → z = moveOf start ids (table.getD k 0)) → Q (.ref l) H'
theorem ok_move_in_table (T : Txt K mg) : FnOk P w K mg base CX0 1 T.a_move_in_table T.fd_move_in_table ["table", "start", "addresses"] (sp_move K) := by
  refine T.F_move_in_table.ok sc_move_in_table (fun vs H Q E h => ?_) (fun cdv A outer s H vs Q E hr h => ?_)
  · obtain ⟨t, i, table, ids, start, rfl, _⟩ := h
    rfl
  · refine ⟨_, (pss_cons (ps_set (i := 3) sc_move_in_table.nd rfl (Or.inr rfl) pe_dnewK)
       (pss_cons (ps_for PassesOwn.never rfl (pi_enumA (by rfl) T.n_enumerate (pa_cons (pv 2) pa_nil)) (pg_tup (by rfl) (pgs_cons (pg_name (i := 4) sc_move_in_table.nd rfl (Or.inl rfl)) (pgs_cons (pg_name (i := 5) sc_move_in_table.nd rfl (Or.inl rfl)) pgs_nil)))
       (pss_one (ps_expr (pe_dsetd (pv 3) (pv 5) (pe_op op_add (pv 1) (pv 4)) ⟨rfl, rfl, rfl, rfl⟩))))
       (pss_one (ps_ret (pe_lc (own := [("address", 5)]) (g := gName 5) (tt := tYes) rfl sc_move_in_table.nd (pi_list (pv 0)) (blkOk_by (own := [("address", 5)]) (N := n_move_in_table) (sc := defScope s_move_in_table) (by decide +kernel)) (fun _ _ _ _ _ => pg_name (i := 5) sc_move_in_table.nd rfl (Or.inl rfl)) (fun _ _ _ _ _ => pts_nil) (fun _ _ _ _ _ => (pe_ifExp (pt_cmpR op_eq (pv 5) pe_int (nomark _)) pe_int (pe_dget2 (hu_of hr) (pv 3) (pv 5) (pv 5) ⟨rfl, rfl, rfl, rfl⟩)))))))), ?_⟩
    try dsimp only [cxOf, Cx.nox, Cx.wish]
    obtain ⟨t, i, table, ids, start, rfl, ht, hi, lt, li, q⟩ := h
    walk_at "rd"
    intro d nd
    generalize hH1 : upd _ _ _ = H1
    have s1 := Same.of_new hH1 nd
    have a1 := Sg.at_new hH1
    clear hH1
    walk_at "rd"
    refine r_ienumA ?_
    walk_at "rd"
    refine r_forEA hi s1 (fun j σ' H' => ∃ (v4 v5 : Option V) (kvs : List (Key × V)), σ' = [some (.ref t), some (.int start), some (.ref i), some (.ref d), v4, v5] ∧ Same H H' ∧ H' d = some (.dK kvs) ∧ kvs.length ≤ j ∧ ∀ k : Int, valV kvs (.inl k) = (firstAt ids k j).map fun n => V.int (start + n)) ?_ ?_ ?_ ?_
    · exact ⟨_, _, [], rfl, s1, a1, Nat.le_refl _, fun k => rfl⟩
    · rintro j σ' H' ⟨v4, v5, kvs, rfl, sH, _⟩
      exact sH
    · rintro j z σ' H' H'' T' hz ⟨v4, v5, kvs, rfl, sH, hd, hl, hk⟩ nT hT
      have sT := Same.of_new hT nT
      have aT := Sg.at_new hT
      have hd' := sT _ _ hd
      have sH' := sH.trans sT
      have ez : ids.getD j 0 = z := by rw [List.getD_eq_getElem?_getD, hz]; rfl
      have hj := (List.getElem?_eq_some_iff.mp hz).1
      clear hd sT sH hT
      walk_at "rd"
      refine ⟨_, rfl, _, rfl, .inl ⟨_, .inl hd'⟩, _, rfl, ?_⟩
      walk_at "rd"
      refine ⟨kvs, .inl z, hd', rfl, by rw [sz]; omega, fun v hv => ?_, fun hn => ?_⟩
      · walk_at "rd"
        refine ⟨_, _, kvs, rfl, sH', hd', by omega, fun k => ?_⟩
        rw [hk k, firstAt]
        cases e : firstAt ids k j with
        | some j' => rfl
        | none =>
          have hne : ¬ ids.getD j 0 = k := by
            intro e2
            rw [ez] at e2
            subst e2
            rw [hk z, e] at hv
            cases hv
          rw [if_neg hne]
      · walk_at "rd"
        have hf : firstAt ids z j = none := by
          have := hk z
          rw [hn] at this
          cases e : firstAt ids z j with
          | none => rfl
          | some j' => rw [e] at this; cases this
        refine ⟨_, _, _, rfl, Same.old sH' nd rfl, upd_same, ?_, fun k => ?_⟩
        · rw [putK_new _ hn, List.length_append]
          simp
          omega
        · rw [valV_put, hk k, firstAt]
          by_cases e : k = z
          · subst e
            rw [if_pos rfl, hf, if_pos ez]
            rfl
          · rw [if_neg (fun h => e (by cases h; rfl))]
            cases e2 : firstAt ids k j with
            | some j' => rfl
            | none =>
              rw [if_neg (fun e3 => e (by rw [← e3, ez]))]
    · rintro σ' H' ⟨v4, v5, kvs, rfl, sH, hd, hl, hk⟩
      walk_at "rd"
      refine r_lcLI (ns := table) (fun k z => z = moveOf start ids (table.getD k 0)) (sH.seq ht) (by omega) rfl ?_ ?_
      · intro k x H2 hx s' R hR
        have ex : table.getD k 0 = x := by rw [List.getD_eq_getElem?_getD, hx]; rfl
        have hd' := s' _ _ hd
        walk_at "rd"
        refine r_ite (fun c => ?_) (fun c => ?_)
        · walk_at "rd"
          exact hR _ (by rw [ex, moveOf, if_pos c])
        · refine ⟨_, rfl, _, rfl, .inl ⟨_, .inl hd'⟩, _, rfl, _, rfl, _, DGet.k (k := .inl x) hd', ?_⟩
          rw [hk x]
          cases e : firstAt ids x ids.length with
          | some j => exact hR _ (by rw [ex, moveOf, if_neg c, e])
          | none => exact hR _ (by rw [ex, moveOf, if_neg c, e])
      · intro H2 l zs s' nl hl2 el hz
        walk_at "rd"
        exact q _ l zs (sH.trans s') (sH.free nl) hl2 el hz

def dueN (d : Int) (start key : Int) (ids : List Int) : Nat → Int
  | 0 => d
  | j + 1 => if ids.getD j 0 = key then start + j else dueN d start key ids j
theorem due_commit {table : List Int} {start : Int} {ids : List Int} {key : Nat} (h0 : 0 < key) (h1 : key < table.length) : ∀ j, (commitN table start ids j).getD key 0 = dueN (table.getD key 0) start key ids j
  | 0 => rfl
  | j + 1 => by
    have ih := due_commit (table := table) (start := start) (ids := ids) h0 h1 j
    rw [commitN, dueN]
    by_cases e : ids.getD j 0 = (key : Int)
    · rw [if_pos e, if_pos (by omega), e]
      rw [List.getD_eq_getElem?_getD, Int.toNat_natCast, List.getElem?_set_self (by rw [commitN_len]; exact h1)]
      rfl
    · rw [if_neg e, ← ih]
      split
      · rename_i c
        rw [List.getD_eq_getElem?_getD, List.getElem?_set_ne (by omega), ← List.getD_eq_getElem?_getD]
      · rfl


/-! ### blocks by their contents -/
inductive Body
  | ints (ns : List Int)
  | com (ids used : List Int) (a : Int)
structure BD where
  kind : Int
  seq : Int
  rank : Int
  body : Body
def BodyAt (K : PySem.W.Frag) (H : Hp) (b : Addr) : Body → Prop
  | .ints ns => SqT K H b (ns.map V.int)
  | .com ids used a => ∃ x u : Addr, SqT K H b [.ref x, .ref u, .int a] ∧ SqT K H x (ids.map V.int) ∧ SqT K H u (used.map V.int)
theorem BodyAt.keeps {K : PySem.W.Frag} {H H' : Hp} {b : Addr} (s : Keeps H H') : ∀ {y : Body}, BodyAt K H b y → BodyAt K H' b y
  | .ints _, h => s.tup h
  | .com _ _ _, ⟨x, u, h1, h2, h3⟩ => ⟨x, u, s.tup h1, s.tup h2, s.tup h3⟩
def BlkAt (K : PySem.W.Frag) (H : Hp) (v : V) : Option BD → Prop
  | none => v = .non
  | some d => ∃ t b : Addr, v = .ref t ∧ SqT K H t [.int d.kind, .int d.seq, .int d.rank, .ref b] ∧ BodyAt K H b d.body
theorem BlkAt.keeps {K : PySem.W.Frag} {H H' : Hp} {v : V} (s : Keeps H H') : ∀ {o : Option BD}, BlkAt K H v o → BlkAt K H' v o
  | none, h => h
  | some _, ⟨t, b, e, h1, h2⟩ => ⟨t, b, e, s.tup h1, h2.keeps s⟩
abbrev Blks (K : PySem.W.Frag) (H : Hp) (vs : List V) (D : List (Option BD)) : Prop := Paired (BlkAt K H) vs D
theorem Blks.keeps {K : PySem.W.Frag} {H H' : Hp} (s : Keeps H H') : ∀ {vs : List V} {D : List (Option BD)}, Blks K H vs D → Blks K H' vs D
  | _, _, .nil => .nil
  | _, _, .cons h t => .cons (h.keeps s) (Blks.keeps s t)
/-- a payload: (kind, body) -/
def PlAt (K : PySem.W.Frag) (H : Hp) (v : V) : Option (Int × Body) → Prop
  | none => v = .non
  | some p => ∃ t b : Addr, v = .ref t ∧ SqT K H t [.int p.1, .ref b] ∧ BodyAt K H b p.2
theorem PlAt.keeps {K : PySem.W.Frag} {H H' : Hp} {v : V} (s : Keeps H H') : ∀ {o : Option (Int × Body)}, PlAt K H v o → PlAt K H' v o
  | none, h => h
  | some _, ⟨t, b, e, h1, h2⟩ => ⟨t, b, e, s.tup h1, h2.keeps s⟩
def payD : Option BD → Option (Int × Body)
  | none => none
  | some d => if d.kind = 3 ∨ d.kind = 4 then some (d.kind, d.body) else none
/-! ### counts -/
structure Cn where
  c : Int
  cb : Int
  m : Int
  mb : Int
  k : Int
  kb : Int
  b : Int
structure CntFs (fs : List (Str × V)) (n : Cn) : Prop where
  few : fs.length ≤ 20
  c : fs.lookup ("commits" : Str) = some (.int n.c)
  cb : fs.lookup ("commit_blocks" : Str) = some (.int n.cb)
  m : fs.lookup ("moves" : Str) = some (.int n.m)
  mb : fs.lookup ("move_blocks" : Str) = some (.int n.mb)
  k : fs.lookup ("checkpoints" : Str) = some (.int n.k)
  kb : fs.lookup ("checkpoint_blocks" : Str) = some (.int n.kb)
  b : fs.lookup ("barriers" : Str) = some (.int n.b)
  nR : fs.lookup ("as_row" : Str) = none
  nF : fs.lookup ("fork" : Str) = none
def CntAt (C : Addr) (H : Hp) (a : Addr) (c : Cn) : Prop := ∃ (dx : Addr) (fs : List (Str × V)), H a = some (.ins C dx fs) ∧ CntFs fs c
theorem CntAt.of {C : Addr} {H H' : Hp} {a : Addr} {c : Cn} (h : CntAt C H a c) (e : ∀ o, H a = some o → H' a = some o) : CntAt C H' a c := by
  obtain ⟨dx, fs, h1, h2⟩ := h
  exact ⟨dx, fs, e _ h1, h2⟩
def sp_Counts___init (C : Addr) : Sp := fun args_ H Q _ => ∃ (a dx : Addr), args_ = [.ref a] ∧ H a = some (.ins C dx []) ∧ ∀ H', (∀ x, x ≠ a → H' x = H x) → CntAt C H' a ⟨0, 0, 0, 0, 0, 0, 0⟩ → Q .non H'
theorem i_Counts___init {C : Addr} {args_ : List V} {H : Hp} {Q : V → Hp → Prop} {E : XK} {a dx : Addr} (ev : args_ = [.ref a]) (hf : H a = some (.ins C dx [])) (q : ∀ H', (∀ x, x ≠ a → H' x = H x) → CntAt C H' a ⟨0, 0, 0, 0, 0, 0, 0⟩ → Q .non H') : sp_Counts___init C args_ H Q E := ⟨a, dx, ev, hf, q⟩
local macro_rules | `(tactic| walk_at "ca1") => `(tactic| with_reducible (refine' Sg.i_Counts___init ?ev ?hf ?_; (case ev => (with_unfolding_all rfl)); (case hf => (with_unfolding_all walk_at "pr")); intros))

theorem ok_Counts___init (T : Txt K mg) : FnOk P w K mg base CX0 1 T.a_Counts___init T.fd_Counts___init ["self"] (sp_Counts___init T.A_Counts) := by
  refine T.F_Counts___init.ok sc_Counts___init (fun vs H Q E h => ?_) (fun cdv A outer s H vs Q E hr h => ?_)
  · obtain ⟨a, dx, rfl, _⟩ := h
    rfl
  · refine ⟨_, (pss_cons (ps_fld (pv 0) pe_int rfl)
       (pss_cons (ps_fld (pv 0) pe_int rfl)
       (pss_cons (ps_fld (pv 0) pe_int rfl)
       (pss_cons (ps_fld (pv 0) pe_int rfl)
       (pss_cons (ps_fld (pv 0) pe_int rfl)
       (pss_cons (ps_fld (pv 0) pe_int rfl)
       (pss_one (ps_fld (pv 0) pe_int rfl)))))))), ?_⟩
    try dsimp only [cxOf, Cx.nox, Cx.wish]
    obtain ⟨a, dx, rfl, hf, q⟩ := h
    have cl_Counts := T.cl_Counts
    have na_Counts_barriers := T.na_Counts_barriers
    have na_Counts_checkpoint_blocks := T.na_Counts_checkpoint_blocks
    have na_Counts_checkpoints := T.na_Counts_checkpoints
    have na_Counts_commit_blocks := T.na_Counts_commit_blocks
    have na_Counts_commits := T.na_Counts_commits
    have na_Counts_move_blocks := T.na_Counts_move_blocks
    have na_Counts_moves := T.na_Counts_moves
    walk_at "go"
    rename_i H1 e1 g1 H2 e2 g2 H3 e3 g3 H4 e4 g4 H5 e5 g5 H6 e6 g6 H7 e7 g7
    refine q _ (fun x hx => by rw [← e7, upd_ne hx, ← e6, upd_ne hx, ← e5, upd_ne hx, ← e4, upd_ne hx, ← e3, upd_ne hx, ← e2, upd_ne hx, ← e1, upd_ne hx]) ⟨dx, _, g7, ⟨Sg.putF_len (Sg.putF_len (Sg.putF_len (Sg.putF_len (Sg.putF_len (Sg.putF_len (Sg.putF_len (Nat.zero_le _))))))), by walk_at "lk", by walk_at "lk", by walk_at "lk", by walk_at "lk", by walk_at "lk", by walk_at "lk", by walk_at "lk", by walk_at "lk", by walk_at "lk"⟩⟩
theorem i_cntnew {C : Addr} {H : Hp} {Q : Addr → Hp → Prop} {E : XK} {vs dvs : List V} (ev : vs ++ dvs = []) (q : ∀ a H', Same H H' → H a = none → CntAt C H' a ⟨0, 0, 0, 0, 0, 0, 0⟩ → Q a H') :
    ∀ o dx, H o = none → H dx = none → dx ≠ o → sp_Counts___init C (.ref o :: (vs ++ dvs)) (upd (upd H dx (.own o)) o (.ins C dx [])) (fun v H2 => v = .non ∧ Q o H2) E := fun o dx no nd ne => by
  rw [ev]
  refine ⟨o, dx, rfl, upd_same, fun H' k hF => ⟨rfl, q o H' (fun a u e => ?_) no hF⟩⟩
  rw [k _ (ne_of_none e no), upd_ne (ne_of_none e no), upd_ne (ne_of_none e nd)]
  exact e
local macro_rules | `(tactic| walk_at "ca1") => `(tactic| with_reducible (refine' Sg.i_cntnew ?ev ?_; (case ev => (with_unfolding_all rfl)); intros))
/-! ### the log -/
structure LU where
  ca : Addr
  d : Addr
  su : Addr
  sh : Addr
  un : Addr
  pr : Addr
  sl : Addr
  qa : Addr
  vs : List V
/-- what a log's record leads to and never changes -/
def PartOf (u : LU) (x : Addr) : Prop := x = u.pr ∨ x = u.sl ∨ x = u.qa ∨ V.ref x ∈ u.vs
theorem PartOf.pr' {u : LU} {a : Addr} {H : Hp} (n : H a = none) : ∀ x, PartOf { u with pr := a } x → PartOf u x ∨ H x = none := fun x h => by
  rcases h with h | h | h | h
  · exact .inr (by rw [h]; exact n)
  · exact .inl (.inr (.inl h))
  · exact .inl (.inr (.inr (.inl h)))
  · exact .inl (.inr (.inr (.inr h)))
theorem PartOf.qa' {u : LU} {a : Addr} {H : Hp} (n : H a = none) : ∀ x, PartOf { u with qa := a } x → PartOf u x ∨ H x = none := fun x h => by
  rcases h with h | h | h | h
  · exact .inl (.inl h)
  · exact .inl (.inr (.inl h))
  · exact .inr (by rw [h]; exact n)
  · exact .inl (.inr (.inr (.inr h)))
theorem PartOf.sl' {u : LU} {a : Addr} {vs : List V} {H : Hp} (n : H a = none) (nv : ∀ r, V.ref r ∈ vs → H r = none) : ∀ x, PartOf { u with sl := a, vs := vs } x → PartOf u x ∨ H x = none := fun x h => by
  rcases h with h | h | h | h
  · exact .inl (.inl h)
  · exact .inr (by rw [h]; exact n)
  · exact .inl (.inr (.inr (.inl h)))
  · exact .inr (nv x h)
def mutL (g : Addr) (u : LU) : List Addr := [g, u.ca, u.d, u.su, u.sh, u.un]
structure LgM where
  m : DevM
  present : List Int
  slots : List (Option (List Int))
  head : Int
  place : Int
  queue : List Int
  last : Int
  region : Int
  cs : Cn
structure LogFs (fs : List (Str × V)) (u : LU) (W : LgM) : Prop where
  few : fs.length ≤ 20
  dev : fs.lookup ("device" : Str) = some (.ref u.d)
  lay : fs.lookup ("layout" : Str) = some (.ref W.m.lay)
  pr : fs.lookup ("present" : Str) = some (.ref u.pr)
  sl : fs.lookup ("slots" : Str) = some (.ref u.sl)
  head : fs.lookup ("head" : Str) = some (.int W.head)
  place : fs.lookup ("place" : Str) = some (.int W.place)
  qa : fs.lookup ("queue" : Str) = some (.ref u.qa)
  last : fs.lookup ("last_sequence" : Str) = some (.int W.last)
  region : fs.lookup ("region" : Str) = some (.int W.region)
  ca : fs.lookup ("counts" : Str) = some (.ref u.ca)
  nF : fs.lookup ("fork" : Str) = none
/-- what stays of a log's parts -/
structure LogG (K : PySem.W.Frag) (CL : Addr) (L : Lay) (G : Hp) (u : LU) (W : LgM) : Prop where
  lay : LayAt CL L G W.m.lay
  pr : G u.pr = some (.lst (W.present.map V.int))
  sl : G u.sl = some (.lst u.vs)
  sls : SlotsAre G u.vs W.slots
  qa : G u.qa = some (.lst (W.queue.map V.int))
theorem LogG.mono {K : PySem.W.Frag} {CL : Addr} {L : Lay} {G G' : Hp} {u : LU} {W : LgM} (h : LogG K CL L G u W) (s : Same G G') : LogG K CL L G' u W := ⟨h.lay.mono s, s _ _ h.pr, s _ _ h.sl, h.sls.mono s, s _ _ h.qa⟩
structure LogQ (K : PySem.W.Frag) (C CD CC CL : Addr) (L : Lay) (G H : Hp) (g : Addr) (u : LU) (W : LgM) : Prop where
  obj : ∃ (dx : Addr) (fs : List (Str × V)), H g = some (.ins C dx fs) ∧ LogFs fs u W
  cnt : CntAt CC H u.ca W.cs
  dev : DevQ CD H u.d u.su u.sh u.un W.m
  sta : LogG K CL L G u W
  nd : (mutL g u).Nodup
theorem LogQ.mono {K : PySem.W.Frag} {C CD CC CL : Addr} {L : Lay} {G G' H : Hp} {g : Addr} {u : LU} {W : LgM} (h : LogQ K C CD CC CL L G H g u W) (s : Same G G') : LogQ K C CD CC CL L G' H g u W := ⟨h.obj, h.cnt, h.dev, h.sta.mono s, h.nd⟩
theorem LogQ.live {K : PySem.W.Frag} {C CD CC CL : Addr} {L : Lay} {G H : Hp} {g : Addr} {u : LU} {W : LgM} (h : LogQ K C CD CC CL L G H g u W) : ∀ x ∈ mutL g u, H x ≠ none := fun x hx => by
  obtain ⟨⟨dx, fs, h1, _⟩, ⟨dx2, fs2, h2, _⟩, ⟨dx3, fs3, us, h3, _, _, _, _, h4, h5, h6, _⟩, _, _⟩ := h
  simp only [mutL, List.mem_cons, List.not_mem_nil, or_false] at hx
  rcases hx with rfl | rfl | rfl | rfl | rfl | rfl
  · rw [h1]; exact fun z => nomatch z
  · rw [h2]; exact fun z => nomatch z
  · rw [h3]; exact fun z => nomatch z
  · rw [h4]; exact fun z => nomatch z
  · rw [h5]; exact fun z => nomatch z
  · rw [h6]; exact fun z => nomatch z
/-- a deed on a log -/
structure LogS (K : PySem.W.Frag) (C CD CC CL : Addr) (L : Lay) (g : Addr) (G H : Hp) (u : LU) (G' H' : Hp) (u' : LU) (W' : LgM) : Prop where
  st : Stp (mutL g u) (mutL g u') G H G' H'
  q : LogQ K C CD CC CL L G' H' g u' W'
  pt : ∀ x, PartOf u' x → PartOf u x ∨ H x = none ∨ x ∈ mutL g u
theorem LogS.trans {K : PySem.W.Frag} {C CD CC CL : Addr} {L : Lay} {g : Addr} {G H : Hp} {u : LU} {G1 H1 : Hp} {u1 : LU} {W1 : LgM} {G2 H2 : Hp} {u2 : LU} {W2 : LgM} (a : LogS K C CD CC CL L g G H u G1 H1 u1 W1) (b : LogS K C CD CC CL L g G1 H1 u1 G2 H2 u2 W2) : LogS K C CD CC CL L g G H u G2 H2 u2 W2 := ⟨a.st.trans b.st, b.q, fun x h => by
  have old : H1 x = none → H x = none ∨ x ∈ mutL g u := fun h1 => by
    by_cases c : x ∈ mutL g u
    · exact .inr c
    · cases z : H x with
      | none => exact .inl rfl
      | some o => rw [a.st.ex x o c z] at h1; cases h1
  rcases b.pt x h with h | h | h
  · exact a.pt x h
  · exact .inr (old h)
  · rcases a.st.mm x h with h | h
    · exact .inr (.inr h)
    · exact .inr (.inl h)⟩
/-- only the log's own record is changed -/
theorem LogQ.own {K : PySem.W.Frag} {C CD CC CL : Addr} {L : Lay} {g : Addr} {G H H' : Hp} {u u' : LU} {W W' : LgM} {dx : Addr} {fs' : List (Str × V)} (hQ : LogQ K C CD CC CL L G H g u W) (hF : Frm (mutL g u) G H) (ex : ExL [g] H H') (kp : Keeps H H')
    (ho : H' g = some (.ins C dx fs')) (hf : LogFs fs' u' W') (e : mutL g u' = mutL g u) (em : W'.m = W.m) (ec : W'.cs = W.cs) (hs : LogG K CL L (grow G H H') u' W') (pt : ∀ x, PartOf u' x → PartOf u x ∨ H x = none := by exact fun _ h => .inl h) : LogS K C CD CC CL L g G H u (grow G H H') H' u' W' := by
  have nd := hQ.nd
  have live := hQ.live
  have e' := e
  simp only [mutL, List.cons.injEq, and_true, true_and] at e'
  obtain ⟨e1, e2, e3, e4, e5⟩ := e'
  have ng : ∀ x ∈ mutL g u, x ≠ g → ∀ o, H x = some o → H' x = some o := fun x _ hx o q => ex x o (fun z => hx (List.mem_singleton.mp z)) q
  have hne : ∀ x ∈ [u.ca, u.d, u.su, u.sh, u.un], x ≠ g := fun x hx z => by
    unfold mutL at nd
    exact (List.nodup_cons.mp nd).1 (by rw [z] at hx; exact hx)
  have lv' : ∀ x ∈ mutL g u, H' x ≠ none := fun x hx => by
    by_cases c : x = g
    · rw [c, ho]; exact fun z => nomatch z
    · cases z : H x with
      | none => exact absurd z (live x hx)
      | some o => rw [ng x hx c o z]; exact fun z => nomatch z
  refine ⟨⟨ex.sub fun x hx => by rw [List.mem_singleton.mp hx]; exact List.mem_cons_self .., kp, fun x o h => ?_, fun x o h => ?_, fun x h => ?_, fun x h => .inl (by rw [← e]; exact h), fun x h => ?_, fun x h => lv' x (by rw [← e]; exact h)⟩, ⟨⟨dx, fs', ho, hf⟩, ?_, ?_, hs, by rw [e]; exact nd⟩, fun x h => (pt x h).imp_right .inl⟩
  · rw [grow_old (fun z => by rw [hF.gh _ _ h] at z; cases z)]; exact h
  · by_cases c : H x = none
    · rw [grow_new c] at h; exact h
    · rw [grow_old c] at h
      exact ex x o (fun z => by rw [List.mem_singleton.mp z, hF.mg g (List.mem_cons_self ..)] at h; cases h) (hF.gh _ _ h)
  · by_cases c : H x = none
    · exact .inr (.inl c)
    · rw [grow_old c] at h; exact .inl h
  · rw [e] at h
    rw [grow_old (live x h)]
    exact hF.mg x h
  · rw [e1, ec]
    exact hQ.cnt.of fun o h => ng _ (by simp [mutL]) (hne _ (by simp)) o h
  · rw [e2, e3, e4, e5, em]
    exact hQ.dev.frame (fun x hx o h => ng x (by unfold mutL; exact List.mem_cons_of_mem _ (List.mem_cons_of_mem _ hx)) (hne x (List.mem_cons_of_mem _ hx)) o h) kp
theorem LogS.to {K : PySem.W.Frag} {C CD CC CL : Addr} {L : Lay} {g : Addr} {G H : Hp} {u : LU} {G1 H1 : Hp} {u1 : LU} {W1 W2 : LgM} (a : LogS K C CD CC CL L g G H u G1 H1 u1 W1) (e : W2 = W1) : LogS K C CD CC CL L g G H u G1 H1 u1 W2 := by rw [e]; exact a

/-! ### a log's own record, changed row by row -/
theorem grow_same {G H H' : Hp} (s : Same G H) : Same G (grow G H H') := fun x o h => by
  rw [grow_old (fun z => by rw [s _ _ h] at z; cases z)]
  exact h
theorem grow_mono {G H H1 H2 : Hp} (s : Same H1 H2) : Same (grow G H H1) (grow G H H2) := fun x o h => by
  by_cases c : H x = none
  · rw [grow_new c] at h ⊢; exact s _ _ h
  · rw [grow_old c] at h ⊢; exact h
theorem grow_put {G H H1 H2 : Hp} {g : Addr} {o : HO} (hg : H g ≠ none) (e : L2.upd H1 g o = H2) : Same (grow G H H1) (grow G H H2) := fun x u h => by
  by_cases c : H x = none
  · rw [grow_new c] at h ⊢
    rw [← e, upd_ne (fun z => hg (by rw [← z]; exact c))]
    exact h
  · rw [grow_old c] at h ⊢; exact h
structure Own (K : PySem.W.Frag) (C CL : Addr) (L : Lay) (g : Addr) (G H H' : Hp) (u u' : LU) (W' : LgM) : Prop where
  ex : ExL [g] H H'
  kp : Keeps H H'
  obj : ∃ (dx : Addr) (fs : List (Str × V)), H' g = some (.ins C dx fs) ∧ LogFs fs u' W'
  mu : mutL g u' = mutL g u
  sta : LogG K CL L (grow G H H') u' W'
  pt : ∀ x, PartOf u' x → PartOf u x ∨ H x = none
section
variable {K : PySem.W.Frag} {C CD CC CL : Addr} {L : Lay} {g : Addr} {G H H1 H2 : Hp} {u u1 u2 : LU} {W W1 W2 : LgM}
theorem Own.start (hQ : LogQ K C CD CC CL L G H g u W) (hF : Frm (mutL g u) G H) : Own K C CL L g G H H u u W := ⟨ExL.refl, Keeps.refl H, hQ.obj, rfl, hQ.sta.mono (grow_same hF.gh), fun _ h => .inl h⟩
theorem Own.same (o : Own K C CL L g G H H1 u u1 W1) (s : Same H1 H2) : Own K C CL L g G H H2 u u1 W1 := by
  obtain ⟨dx, fs, h1, h2⟩ := o.obj
  exact ⟨o.ex.then_ (ExL.of s), o.kp.trans (Keeps.of s), ⟨dx, fs, s _ _ h1, h2⟩, o.mu, o.sta.mono (grow_mono s), o.pt⟩
theorem Own.set {dx : Addr} {fs fs2 : List (Str × V)} (o : Own K C CL L g G H H1 u u1 W1) (hF : Frm (mutL g u) G H) (h1 : H1 g = some (.ins C dx fs)) (e : L2.upd H1 g (.ins C dx fs2) = H2) (F2 : LogFs fs2 u2 W2) (mu : mutL g u2 = mutL g u1) (sta : LogG K CL L (grow G H H1) u2 W2) (pt : ∀ x, PartOf u2 x → PartOf u1 x ∨ H x = none := by exact fun _ h => .inl h) : Own K C CL L g G H H2 u u2 W2 :=
  ⟨o.ex.then_ (ExL.put (by simp) e), o.kp.trans (Keeps.upd h1 insNF e), ⟨dx, fs2, Sg.at_new e, F2⟩, mu.trans o.mu, sta.mono (grow_put (hF.lv g (List.mem_cons_self ..)) e), fun x h => (pt x h).elim (o.pt x) .inr⟩
theorem Own.fresh (o : Own K C CL L g G H H1 u u1 W1) {p : Addr} (n : H1 p = none) : H p = none := by
  obtain ⟨dx, fs, h1, _⟩ := o.obj
  exact o.ex.back1 h1 n
theorem Own.got (o : Own K C CL L g G H H1 u u1 W1) {p : Addr} {x : HO} (n : H p = none) (h : H1 p = some x) : grow G H H1 p = some x := by rw [grow_new n]; exact h
theorem Own.at_ (o : Own K C CL L g G H H1 u u1 W1) (hF : Frm (mutL g u) G H) : Same (grow G H H1) H1 := fun x y h => by
  by_cases c : H x = none
  · rw [grow_new c] at h; exact h
  · rw [grow_old c] at h
    exact o.ex _ _ (fun z => by rw [List.mem_singleton.mp z, hF.mg g (List.mem_cons_self ..)] at h; cases h) (hF.gh _ _ h)
theorem Own.to (o : Own K C CL L g G H H1 u u1 W1) (e : W2 = W1) : Own K C CL L g G H H1 u u1 W2 := by rw [e]; exact o
theorem Own.done (hQ : LogQ K C CD CC CL L G H g u W) (hF : Frm (mutL g u) G H) (o : Own K C CL L g G H H1 u u1 W1) (em : W1.m = W.m) (ec : W1.cs = W.cs) : LogS K C CD CC CL L g G H u (grow G H H1) H1 u1 W1 := by
  obtain ⟨dx, fs, h1, h2⟩ := o.obj
  exact hQ.own hF o.ex o.kp h1 h2 o.mu em ec o.sta o.pt
theorem LogG.head' (h : LogG K CL L G u W) (x : Int) : LogG K CL L G u { W with head := x } := ⟨h.lay, h.pr, h.sl, h.sls, h.qa⟩
theorem LogG.place' (h : LogG K CL L G u W) (x : Int) : LogG K CL L G u { W with place := x } := ⟨h.lay, h.pr, h.sl, h.sls, h.qa⟩
theorem LogG.last' (h : LogG K CL L G u W) (x : Int) : LogG K CL L G u { W with last := x } := ⟨h.lay, h.pr, h.sl, h.sls, h.qa⟩
theorem LogG.region' (h : LogG K CL L G u W) (x : Int) : LogG K CL L G u { W with region := x } := ⟨h.lay, h.pr, h.sl, h.sls, h.qa⟩
theorem LogG.qa' (h : LogG K CL L G u W) {a : Addr} {ns : List Int} (e : G a = some (.lst (ns.map V.int))) : LogG K CL L G { u with qa := a } { W with queue := ns } := ⟨h.lay, h.pr, h.sl, h.sls, e⟩
theorem LogG.pr' (h : LogG K CL L G u W) {a : Addr} {ns : List Int} (e : G a = some (.lst (ns.map V.int))) : LogG K CL L G { u with pr := a } { W with present := ns } := ⟨h.lay, e, h.sl, h.sls, h.qa⟩
theorem LogG.sl' (h : LogG K CL L G u W) {a : Addr} {vs : List V} {os : List (Option (List Int))} (e : G a = some (.lst vs)) (e2 : SlotsAre G vs os) : LogG K CL L G { u with sl := a, vs := vs } { W with slots := os } := ⟨h.lay, h.pr, e, e2, h.qa⟩
end

theorem LogFs.head' {fs : List (Str × V)} {u : LU} {W : LgM} (h : LogFs fs u W) (x : Int) : LogFs (putF "head" (.int x) fs) u { W with head := x } := by
  obtain ⟨h1, h2, h3, h4, h5, h6, h7, h8, h9, h10, h11, h12⟩ := h
  exact ⟨by rw [putF_same h6]; exact h1, by walk_at "lk", by walk_at "lk", by walk_at "lk", by walk_at "lk", by walk_at "lk", by walk_at "lk", by walk_at "lk", by walk_at "lk", by walk_at "lk", by walk_at "lk", by walk_at "lk"⟩
theorem LogFs.place' {fs : List (Str × V)} {u : LU} {W : LgM} (h : LogFs fs u W) (x : Int) : LogFs (putF "place" (.int x) fs) u { W with place := x } := by
  obtain ⟨h1, h2, h3, h4, h5, h6, h7, h8, h9, h10, h11, h12⟩ := h
  exact ⟨by rw [putF_same h7]; exact h1, by walk_at "lk", by walk_at "lk", by walk_at "lk", by walk_at "lk", by walk_at "lk", by walk_at "lk", by walk_at "lk", by walk_at "lk", by walk_at "lk", by walk_at "lk", by walk_at "lk"⟩
theorem LogFs.last' {fs : List (Str × V)} {u : LU} {W : LgM} (h : LogFs fs u W) (x : Int) : LogFs (putF "last_sequence" (.int x) fs) u { W with last := x } := by
  obtain ⟨h1, h2, h3, h4, h5, h6, h7, h8, h9, h10, h11, h12⟩ := h
  exact ⟨by rw [putF_same h9]; exact h1, by walk_at "lk", by walk_at "lk", by walk_at "lk", by walk_at "lk", by walk_at "lk", by walk_at "lk", by walk_at "lk", by walk_at "lk", by walk_at "lk", by walk_at "lk", by walk_at "lk"⟩
theorem LogFs.region' {fs : List (Str × V)} {u : LU} {W : LgM} (h : LogFs fs u W) (x : Int) : LogFs (putF "region" (.int x) fs) u { W with region := x } := by
  obtain ⟨h1, h2, h3, h4, h5, h6, h7, h8, h9, h10, h11, h12⟩ := h
  exact ⟨by rw [putF_same h10]; exact h1, by walk_at "lk", by walk_at "lk", by walk_at "lk", by walk_at "lk", by walk_at "lk", by walk_at "lk", by walk_at "lk", by walk_at "lk", by walk_at "lk", by walk_at "lk", by walk_at "lk"⟩
theorem LogFs.qa' {fs : List (Str × V)} {u : LU} {W : LgM} (h : LogFs fs u W) (a : Addr) (ns : List Int) : LogFs (putF "queue" (.ref a) fs) { u with qa := a } { W with queue := ns } := by
  obtain ⟨h1, h2, h3, h4, h5, h6, h7, h8, h9, h10, h11, h12⟩ := h
  exact ⟨by rw [putF_same h8]; exact h1, by walk_at "lk", by walk_at "lk", by walk_at "lk", by walk_at "lk", by walk_at "lk", by walk_at "lk", by walk_at "lk", by walk_at "lk", by walk_at "lk", by walk_at "lk", by walk_at "lk"⟩
theorem LogFs.pr' {fs : List (Str × V)} {u : LU} {W : LgM} (h : LogFs fs u W) (a : Addr) (ns : List Int) : LogFs (putF "present" (.ref a) fs) { u with pr := a } { W with present := ns } := by
  obtain ⟨h1, h2, h3, h4, h5, h6, h7, h8, h9, h10, h11, h12⟩ := h
  exact ⟨by rw [putF_same h4]; exact h1, by walk_at "lk", by walk_at "lk", by walk_at "lk", by walk_at "lk", by walk_at "lk", by walk_at "lk", by walk_at "lk", by walk_at "lk", by walk_at "lk", by walk_at "lk", by walk_at "lk"⟩
theorem LogFs.sl' {fs : List (Str × V)} {u : LU} {W : LgM} (h : LogFs fs u W) (a : Addr) (vs : List V) (os : List (Option (List Int))) : LogFs (putF "slots" (.ref a) fs) { u with sl := a, vs := vs } { W with slots := os } := by
  obtain ⟨h1, h2, h3, h4, h5, h6, h7, h8, h9, h10, h11, h12⟩ := h
  exact ⟨by rw [putF_same h5]; exact h1, by walk_at "lk", by walk_at "lk", by walk_at "lk", by walk_at "lk", by walk_at "lk", by walk_at "lk", by walk_at "lk", by walk_at "lk", by walk_at "lk", by walk_at "lk", by walk_at "lk"⟩
theorem CntFs.c' {fs : List (Str × V)} {n : Cn} (h : CntFs fs n) (x : Int) : CntFs (putF "commits" (.int x) fs) { n with c := x } := by
  obtain ⟨h1, h2, h3, h4, h5, h6, h7, h8, h9, h10⟩ := h
  exact ⟨by rw [putF_same h2]; exact h1, by walk_at "lk", by walk_at "lk", by walk_at "lk", by walk_at "lk", by walk_at "lk", by walk_at "lk", by walk_at "lk", by walk_at "lk", by walk_at "lk"⟩
theorem CntFs.cb' {fs : List (Str × V)} {n : Cn} (h : CntFs fs n) (x : Int) : CntFs (putF "commit_blocks" (.int x) fs) { n with cb := x } := by
  obtain ⟨h1, h2, h3, h4, h5, h6, h7, h8, h9, h10⟩ := h
  exact ⟨by rw [putF_same h3]; exact h1, by walk_at "lk", by walk_at "lk", by walk_at "lk", by walk_at "lk", by walk_at "lk", by walk_at "lk", by walk_at "lk", by walk_at "lk", by walk_at "lk"⟩
theorem CntFs.m' {fs : List (Str × V)} {n : Cn} (h : CntFs fs n) (x : Int) : CntFs (putF "moves" (.int x) fs) { n with m := x } := by
  obtain ⟨h1, h2, h3, h4, h5, h6, h7, h8, h9, h10⟩ := h
  exact ⟨by rw [putF_same h4]; exact h1, by walk_at "lk", by walk_at "lk", by walk_at "lk", by walk_at "lk", by walk_at "lk", by walk_at "lk", by walk_at "lk", by walk_at "lk", by walk_at "lk"⟩
theorem CntFs.mb' {fs : List (Str × V)} {n : Cn} (h : CntFs fs n) (x : Int) : CntFs (putF "move_blocks" (.int x) fs) { n with mb := x } := by
  obtain ⟨h1, h2, h3, h4, h5, h6, h7, h8, h9, h10⟩ := h
  exact ⟨by rw [putF_same h5]; exact h1, by walk_at "lk", by walk_at "lk", by walk_at "lk", by walk_at "lk", by walk_at "lk", by walk_at "lk", by walk_at "lk", by walk_at "lk", by walk_at "lk"⟩
theorem CntFs.k' {fs : List (Str × V)} {n : Cn} (h : CntFs fs n) (x : Int) : CntFs (putF "checkpoints" (.int x) fs) { n with k := x } := by
  obtain ⟨h1, h2, h3, h4, h5, h6, h7, h8, h9, h10⟩ := h
  exact ⟨by rw [putF_same h6]; exact h1, by walk_at "lk", by walk_at "lk", by walk_at "lk", by walk_at "lk", by walk_at "lk", by walk_at "lk", by walk_at "lk", by walk_at "lk", by walk_at "lk"⟩
theorem CntFs.kb' {fs : List (Str × V)} {n : Cn} (h : CntFs fs n) (x : Int) : CntFs (putF "checkpoint_blocks" (.int x) fs) { n with kb := x } := by
  obtain ⟨h1, h2, h3, h4, h5, h6, h7, h8, h9, h10⟩ := h
  exact ⟨by rw [putF_same h7]; exact h1, by walk_at "lk", by walk_at "lk", by walk_at "lk", by walk_at "lk", by walk_at "lk", by walk_at "lk", by walk_at "lk", by walk_at "lk", by walk_at "lk"⟩
theorem CntFs.b' {fs : List (Str × V)} {n : Cn} (h : CntFs fs n) (x : Int) : CntFs (putF "barriers" (.int x) fs) { n with b := x } := by
  obtain ⟨h1, h2, h3, h4, h5, h6, h7, h8, h9, h10⟩ := h
  exact ⟨by rw [putF_same h8]; exact h1, by walk_at "lk", by walk_at "lk", by walk_at "lk", by walk_at "lk", by walk_at "lk", by walk_at "lk", by walk_at "lk", by walk_at "lk", by walk_at "lk"⟩

def sp_empty_table (CL : Addr) : Sp := fun args_ H Q _ => ∃ (lay : Addr) (L : Lay), args_ = [.ref lay] ∧ LayAt CL L H lay ∧ LayC L ∧ ∀ H' l, Same H H' → H l = none → H' l = some (.lst ((List.replicate (L.last + 1).toNat (0 : Int)).map V.int)) → Q (.ref l) H'
theorem i_empty_table {CL : Addr} {args_ : List V} {H : Hp} {Q : V → Hp → Prop} {E : XK} {lay : Addr} {L : Lay} (ev : args_ = [.ref lay]) (hL : LayAt CL L H lay) (hC : LayC L) (q : ∀ H' l, Same H H' → H l = none → H' l = some (.lst ((List.replicate (L.last + 1).toNat (0 : Int)).map V.int)) → Q (.ref l) H') : sp_empty_table CL args_ H Q E := ⟨lay, L, ev, hL, hC, q⟩
local macro_rules | `(tactic| walk_at "ca1") => `(tactic| with_reducible (refine' Sg.i_empty_table ?ev ?hL ?hC ?_; (case ev => (with_unfolding_all rfl)); (case hL => (with_unfolding_all walk_at "pr")); (case hC => (with_unfolding_all walk_at "pr")); intros))

theorem ok_empty_table (T : Txt K mg) : FnOk P w K mg base CX0 1 T.a_empty_table T.fd_empty_table ["layout"] (sp_empty_table T.A_Layout) := by
  refine T.F_empty_table.ok sc_empty_table (fun vs H Q E h => ?_) (fun cdv A outer s H vs Q E hr h => ?_)
  · obtain ⟨lay, L, rfl, _⟩ := h
    rfl
  · refine ⟨_, (pss_one (ps_ret (pe_op op_rep (pe_lst (pa_cons pe_int pa_nil)) (pe_op op_add (pe_fld (pv 0) rfl) pe_int)))), ?_⟩
    try dsimp only [cxOf, Cx.nox, Cx.wish]
    obtain ⟨lay, L, rfl, hL, hC, q⟩ := h
    have cl_Layout := T.cl_Layout
    have na_Layout_last_id := T.na_Layout_last_id
    obtain ⟨dx, fs, hp, F⟩ := id hL
    have lk1 := F.last
    have b0 := hC.l0
    have b1 := hC.l1
    walk_at "go"
    rename_i p1 n1 H1 s1 g1 p2 n2 H2 s2 g2
    exact q _ _ (s1.trans s2) (s1.free n2) (by rw [g2, List.map_replicate])
def sp_Log___init (C CD CC CL : Addr) : Sp := fun args_ H Q _ => ∃ (g dx d su sh un : Addr) (m : DevM) (L : Lay), args_ = [.ref g, .ref d] ∧ H g = some (.ins C dx []) ∧ DevQ CD H d su sh un m ∧ LayAt CL L H m.lay ∧ LayC L ∧ ∀ (H' : Hp) (ca pr sl qa : Addr), (∀ x o, x ≠ g → H x = some o → H' x = some o) → (∃ fs, H' g = some (.ins C dx fs) ∧ LogFs fs ⟨ca, d, su, sh, un, pr, sl, qa, [.non, .non, .non]⟩ ⟨m, List.replicate (L.last + 1).toNat 0, [none, none, none], 0, 0, [], 0, 1, ⟨0, 0, 0, 0, 0, 0, 0⟩⟩) → CntAt CC H' ca ⟨0, 0, 0, 0, 0, 0, 0⟩ → H' pr = some (.lst ((List.replicate (L.last + 1).toNat (0 : Int)).map V.int)) → H' sl = some (.lst [.non, .non, .non]) → H' qa = some (.lst []) → H ca = none → H pr = none → H sl = none → H qa = none → Q .non H'
theorem i_Log___init {C CD CC CL : Addr} {args_ : List V} {H : Hp} {Q : V → Hp → Prop} {E : XK} {g dx d su sh un : Addr} {m : DevM} {L : Lay} (ev : args_ = [.ref g, .ref d]) (hg : H g = some (.ins C dx [])) (hD : DevQ CD H d su sh un m) (hL : LayAt CL L H m.lay) (hC : LayC L) (q : ∀ (H' : Hp) (ca pr sl qa : Addr), (∀ x o, x ≠ g → H x = some o → H' x = some o) → (∃ fs, H' g = some (.ins C dx fs) ∧ LogFs fs ⟨ca, d, su, sh, un, pr, sl, qa, [.non, .non, .non]⟩ ⟨m, List.replicate (L.last + 1).toNat 0, [none, none, none], 0, 0, [], 0, 1, ⟨0, 0, 0, 0, 0, 0, 0⟩⟩) → CntAt CC H' ca ⟨0, 0, 0, 0, 0, 0, 0⟩ → H' pr = some (.lst ((List.replicate (L.last + 1).toNat (0 : Int)).map V.int)) → H' sl = some (.lst [.non, .non, .non]) → H' qa = some (.lst []) → H ca = none → H pr = none → H sl = none → H qa = none → Q .non H') : sp_Log___init C CD CC CL args_ H Q E := ⟨g, dx, d, su, sh, un, m, L, ev, hg, hD, hL, hC, q⟩
local macro_rules | `(tactic| walk_at "ca1") => `(tactic| with_reducible (refine' Sg.i_Log___init ?ev ?hg ?hD ?hL ?hC ?_; (case ev => (with_unfolding_all rfl)); (case hg => (with_unfolding_all walk_at "pr")); (case hD => (with_unfolding_all walk_at "pr")); (case hL => (with_unfolding_all walk_at "pr")); (case hC => (with_unfolding_all walk_at "pr")); intros))

theorem ok_Log___init (T : Txt K mg) : FnOk P w K mg base CX0 3 T.a_Log___init T.fd_Log___init ["self", "device"] (sp_Log___init T.A_Log T.A_Device T.A_Counts T.A_Layout) := by
  refine T.F_Log___init.ok sc_Log___init (fun vs H Q E h => ?_) (fun cdv A outer s H vs Q E hr h => ?_)
  · obtain ⟨g, dx, d, su, sh, un, m, L, rfl, _⟩ := h
    rfl
  · refine ⟨_, (pss_cons (ps_fld (pv 0) (pv 1) rfl)
       (pss_cons (ps_fld (pv 0) (pe_fld (pv 1) rfl) rfl)
       (pss_cons (ps_fld (pv 0) (pe_call (ok_empty_table T) (hr.mono (by decide)) rfl T.m_empty_table T.F_empty_table.kp T.b_empty_table .nil pass0 (pa_cons (pe_fld (pv 1) rfl) pa_nil)) rfl)
       (pss_cons (ps_fld (pv 0) (pe_lst (pa_cons pe_non (pa_cons pe_non (pa_cons pe_non pa_nil)))) rfl)
       (pss_cons (ps_fld (pv 0) pe_int rfl)
       (pss_cons (ps_fld (pv 0) pe_int rfl)
       (pss_cons (ps_fld (pv 0) (pe_lst pa_nil) rfl)
       (pss_cons (ps_fld (pv 0) pe_int rfl)
       (pss_cons (ps_fld (pv 0) pe_int rfl)
       (pss_one (ps_fld (pv 0) (pe_make0 T.M_Counts (ok_Counts___init T) (hr.mono (by decide)) rfl T.m_Counts T.b_Counts___init .nil pass0) rfl))))))))))), ?_⟩
    try dsimp only [cxOf, Cx.nox, Cx.wish]
    obtain ⟨g, dx, d, su, sh, un, m, L, rfl, hg, hD, hL, hC, q⟩ := h
    have cl_Counts := T.cl_Counts
    have cl_Device := T.cl_Device
    have cl_Log := T.cl_Log
    have na_Device_layout := T.na_Device_layout
    have na_Log_counts := T.na_Log_counts
    have na_Log_device := T.na_Log_device
    have na_Log_head := T.na_Log_head
    have na_Log_last_sequence := T.na_Log_last_sequence
    have na_Log_layout := T.na_Log_layout
    have na_Log_place := T.na_Log_place
    have na_Log_present := T.na_Log_present
    have na_Log_queue := T.na_Log_queue
    have na_Log_region := T.na_Log_region
    have na_Log_slots := T.na_Log_slots
    have naD := T.na_Device_layout
    obtain ⟨dxd, fsd, usd, hd1, hd2, _⟩ := id hD
    have lkl := hd2.lay
    have l0 := hC.l0
    have l1 := hC.l1
    have ne1 : d ≠ g := fun z => by
      rw [z, hg] at hd1
      simp only [Option.some.injEq, HO.ins.injEq] at hd1
      rw [← hd1.2.2] at lkl
      cases lkl
    have ne2 : m.lay ≠ g := fun z => by
      obtain ⟨dxl, fsl, h1, F⟩ := hL
      rw [z, hg] at h1
      simp only [Option.some.injEq, HO.ins.injEq] at h1
      have := F.seg
      rw [← h1.2.2] at this
      cases this
    have k1 : ∀ {H1 : Hp} {o : HO}, upd H g o = H1 → ∀ x u, x ≠ g → H x = some u → H1 x = some u := fun e x u hx h => by rw [← e, upd_ne hx]; exact h
    walk_at "go"
    rename_i H1 e1 g1
    have f1 := k1 e1
    have hd11 := f1 _ _ ne1 hd1
    have hL1 : LayAt T.A_Layout L H1 m.lay := by
      obtain ⟨dxl, fsl, h1, F⟩ := hL
      exact ⟨dxl, fsl, f1 _ _ ne2 h1, F⟩
    walk_at "go"
    rename_i H2 e2 g2
    have f2 : ∀ x u, x ≠ g → H x = some u → H2 x = some u := fun x u hx h => by rw [← e2, upd_ne hx]; exact f1 _ _ hx h
    have hd12 := f2 _ _ ne1 hd1
    have hL2 : LayAt T.A_Layout L H2 m.lay := by
      obtain ⟨dxl, fsl, h1, F⟩ := hL
      exact ⟨dxl, fsl, f2 _ _ ne2 h1, F⟩
    walk_at "go"
    rename_i H3 pr s3 n3 g3 H4 e4 g4 sl n5 H5 s5 g5 H6 e6 g6 H7 e7 g7 H8 e8 g8 qa n9 H9 s9 g9 H10 e10 g10 H11 e11 g11 H12 e12 g12 ca H13 s13 n13 g13 H14 e14 g14
    have up : ∀ {A B : Hp} {o : HO}, upd A g o = B → ∀ x u, x ≠ g → A x = some u → B x = some u := fun e x u hx h => by rw [← e, upd_ne hx]; exact h
    have f14 := up e14
    have f12 : ∀ x u, x ≠ g → H9 x = some u → H12 x = some u := fun x u hx h => up e12 _ _ hx (up e11 _ _ hx (up e10 _ _ hx h))
    have f9 : ∀ x u, x ≠ g → H9 x = some u → H14 x = some u := fun x u hx h => f14 _ _ hx (s13 _ _ (f12 _ _ hx h))
    have f8 : ∀ x u, x ≠ g → H5 x = some u → H8 x = some u := fun x u hx h => up e8 _ _ hx (up e7 _ _ hx (up e6 _ _ hx h))
    have f5 : ∀ x u, x ≠ g → H5 x = some u → H14 x = some u := fun x u hx h => f9 _ _ hx (s9 _ _ (f8 _ _ hx h))
    have f3 : ∀ x u, x ≠ g → H3 x = some u → H14 x = some u := fun x u hx h => f5 _ _ hx (s5 _ _ (up e4 _ _ hx h))
    have f0 : ∀ x u, x ≠ g → H x = some u → H14 x = some u := fun x u hx h => f3 _ _ hx (s3 _ _ (f2 _ _ hx h))
    have ng : ∀ {A : Hp} {x : Addr} {o : HO}, A g = some o → A x = none → x ≠ g := fun h n z => by rw [z, h] at n; cases n
    have npr := ng g2 n3
    have nsl := ng g4 n5
    have nqa := ng g8 n9
    have nca := ng g12 n13
    have bk : ∀ {A : Hp}, (∀ x u, x ≠ g → H x = some u → A x = some u) → ∀ {x : Addr}, x ≠ g → A x = none → H x = none := fun f x hx h => by
      cases z : H x with
      | none => rfl
      | some u => rw [f _ _ hx z] at h; cases h
    refine q H14 ca pr sl qa (fun x o hx h => f0 _ _ hx h) ⟨_, g14, ?_⟩ (g13.of fun o h => f14 _ _ nca h) (f3 _ _ npr g3) (f5 _ _ nsl g5) (f9 _ _ nqa g9) (bk (fun x u hx h => f12 _ _ hx (s9 _ _ (f8 _ _ hx (s5 _ _ (up e4 _ _ hx (s3 _ _ (f2 _ _ hx h))))))) nca n13) (bk (fun x u hx h => f2 _ _ hx h) npr n3) (bk (fun x u hx h => up e4 _ _ hx (s3 _ _ (f2 _ _ hx h))) nsl n5) (bk (fun x u hx h => f8 _ _ hx (s5 _ _ (up e4 _ _ hx (s3 _ _ (f2 _ _ hx h))))) nqa n9)
    exact ⟨Sg.putF_len (Sg.putF_len (Sg.putF_len (Sg.putF_len (Sg.putF_len (Sg.putF_len (Sg.putF_len (Sg.putF_len (Sg.putF_len (Sg.putF_len (Nat.zero_le _)))))))))), by walk_at "lk", by walk_at "lk", by walk_at "lk", by walk_at "lk", by walk_at "lk", by walk_at "lk", by walk_at "lk", by walk_at "lk", by walk_at "lk", by walk_at "lk", by walk_at "lk"⟩
def newW (m : DevM) (L : Lay) : LgM := ⟨m, List.replicate (L.last + 1).toNat 0, [none, none, none], 0, 0, [], 0, 1, ⟨0, 0, 0, 0, 0, 0, 0⟩⟩
theorem i_lognew {K : PySem.W.Frag} {C CD CC CL : Addr} {G H : Hp} {Q : Addr → Hp → Prop} {E : XK} {vs dvs : List V} {d su sh un : Addr} {m : DevM} {L : Lay} (ev : vs ++ dvs = [.ref d]) (hD : DevQ CD H d su sh un m) (hF : Frm [d, su, sh, un] G H) (hL : LayAt CL L G m.lay) (hC : LayC L)
    (q : ∀ g u G' H', H g = none → Stp [d, su, sh, un] (mutL g u) G H G' H' → LogQ K C CD CC CL L G' H' g u (newW m L) → u.d = d → Q g H') :
    ∀ o dx, H o = none → H dx = none → dx ≠ o → sp_Log___init C CD CC CL (.ref o :: (vs ++ dvs)) (upd (upd H dx (.own o)) o (.ins C dx [])) (fun v H2 => v = .non ∧ Q o H2) E := fun o dx no nd ne => by
  rw [ev]
  generalize hH0 : upd (upd H dx (.own o)) o (.ins C dx []) = H0
  have s0 : Same H H0 := by rw [← hH0]; exact made_same2 no nd
  have g0 : H0 o = some (.ins C dx []) := by rw [← hH0]; exact upd_same
  have live : ∀ x ∈ [d, su, sh, un], x ≠ o := fun x hx z => hF.lv x hx (by rw [z]; exact no)
  have k0 : ∀ x ∈ [d, su, sh, un], ∀ u, H x = some u → H0 x = some u := fun x _ u h => s0 _ _ h
  refine ⟨o, dx, d, su, sh, un, m, L, rfl, g0, hD.frame k0 (Keeps.of s0), (hL.mono hF.gh).mono s0, hC, fun H' ca pr sl qa k hg hc h1 h2 h3 n0 n1 n2 n3 => ⟨rfl, ?_⟩⟩
  obtain ⟨fs, hg, F⟩ := hg
  have sH : Same H H' := fun x u h => k x u (fun z => by rw [z, no] at h; cases h) (s0 _ _ h)
  have bk : ∀ {x : Addr}, H0 x = none → H x = none := fun h => by
    cases z : H _ with
    | none => rfl
    | some u => rw [s0 _ _ z] at h; cases h
  have neo : ∀ {x : Addr}, H0 x = none → x ≠ o := fun h z => by rw [z, g0] at h; cases h
  have ned : ∀ {x : Addr}, H0 x = none → x ∉ [d, su, sh, un] := fun h z => hF.lv _ z (bk h)
  obtain ⟨dxc, fsc, hca, Fc⟩ := id hc
  have nca : ∀ {x : Addr} {xs : List V}, H' x = some (.lst xs) → x ∉ [o, ca] := fun h z => by
    simp only [List.mem_cons, List.not_mem_nil, or_false] at z
    rcases z with rfl | rfl
    · rw [hg] at h; cases h
    · rw [hca] at h; cases h
  have G1 : ∀ {x : Addr} {xs : List V}, H0 x = none → H' x = some (.lst xs) → cut4 [o, ca] (grow G H H') x = some (.lst xs) := fun n h => by
    rw [cut4_out (nca h), grow_new (bk n)]
    exact h
  have lm : ∀ x ∈ mutL o ⟨ca, d, su, sh, un, pr, sl, qa, [.non, .non, .non]⟩, H' x ≠ none := fun x hx => by
    simp only [mutL, List.mem_cons, List.not_mem_nil, or_false] at hx
    have lo : ∀ y ∈ [d, su, sh, un], H' y ≠ none := fun y hy => by
      cases z : H y with
      | none => exact absurd z (hF.lv y hy)
      | some u => rw [sH _ _ z]; exact fun z => nomatch z
    rcases hx with rfl | rfl | h
    · rw [hg]; exact fun z => nomatch z
    · rw [hca]; exact fun z => nomatch z
    · exact lo x (by simpa using h)
  have hD' := hD.frame (H' := H') (fun x _ u h => sH _ _ h) (Keeps.of sH)
  have gl : ∀ {x : Addr} {u : HO}, G x = some u → cut4 [o, ca] (grow G H H') x = some u := fun h => by
    have hx : H _ ≠ none := fun z => by rw [hF.gh _ _ h] at z; cases z
    rw [cut4_out, grow_old hx]
    · exact h
    · intro z
      simp only [List.mem_cons, List.not_mem_nil, or_false] at z
      rcases z with rfl | rfl
      · exact hx no
      · exact hx (bk n0)
  refine q o ⟨ca, d, su, sh, un, pr, sl, qa, [.non, .non, .non]⟩ (cut4 [o, ca] (grow G H H')) H' no ⟨ExL.of sH, Keeps.of sH, fun x u h => gl h, fun x u h => ?_, fun x h => ?_, fun x hx => ?_, fun x hx => ?_, lm⟩ ⟨⟨dx, fs, hg, F⟩, hc, hD', ⟨?_, G1 n1 h1, G1 n2 h2, .cons rfl (.cons rfl (.cons rfl .nil)), G1 n3 h3⟩, ?_⟩ rfl
  · exact (Stp.same hF sH).gh _ _ (cut4_same _ _ h)
  · cases z : cut4 [o, ca] (grow G H H') x with
    | none => exact absurd z h
    | some u => exact (Stp.same hF sH).gn x (by rw [cut4_same _ _ z]; exact fun z => nomatch z)
  · simp only [mutL, List.mem_cons, List.not_mem_nil, or_false] at hx
    rcases hx with rfl | rfl | h
    · exact .inr no
    · exact .inr (bk n0)
    · exact .inl (by simpa using h)
  · simp only [mutL, List.mem_cons, List.not_mem_nil, or_false] at hx
    rcases hx with rfl | rfl | h
    · exact cut4_in (by simp)
    · exact cut4_in (by simp)
    · have hy : x ∈ [d, su, sh, un] := by simpa using h
      cases z : cut4 [o, ca] (grow G H H') x with
      | none => rfl
      | some u =>
        have := cut4_same _ _ z
        rw [grow_old (hF.lv x hy), hF.mg x hy] at this
        cases this
  · obtain ⟨dxl, fsl, a1, a2⟩ := hL
    exact ⟨dxl, fsl, gl a1, a2⟩
  · obtain ⟨_, _, _, w1, _, w2, w3, w4, w5, w6, w7, _⟩ := id hD
    have e1 : ∀ {x : Addr} {xs : List V}, H x = some (.lst xs) → d ≠ x := fun h z => by rw [← z, w1] at h; cases h
    have a1 := live
    have a2 := ned n0
    simp only [List.mem_cons, List.not_mem_nil, or_false, forall_eq_or_imp, forall_eq] at a1 a2
    simp only [not_or] at a2
    simp only [mutL, List.nodup_cons, List.mem_cons, List.not_mem_nil, or_false, not_or, List.nodup_nil, and_true, not_false_eq_true]
    exact ⟨⟨Ne.symm (neo n0), Ne.symm a1.1, Ne.symm a1.2.1, Ne.symm a1.2.2.1, Ne.symm a1.2.2.2⟩, a2, ⟨e1 w5, e1 w6, e1 w7⟩, ⟨w2, w3⟩, w4⟩

/-! ### payloads -/
theorem in34' (z : Int) : inV (V.int z) [V.int 3, V.int 4] = decide (z = 3 ∨ z = 4) := by
  rw [show [V.int 3, V.int 4] = ([3, 4] : List Int).map V.int from rfl, inV_ints]
  simp
theorem payD_yes {d : BD} (c : d.kind = 3 ∨ d.kind = 4) : payD (some d) = some (d.kind, d.body) := if_pos c
theorem payD_no {d : BD} (c : ¬ (d.kind = 3 ∨ d.kind = 4)) : payD (some d) = none := if_neg c
def readD (D : List (Option BD)) (a : Int) : Option BD := if 0 ≤ a ∧ a < D.length then D.getD a.toNat none else none
theorem getD_pair {α β : Type} {F : α → β → Prop} : ∀ {xs : List α} {ys : List β} {i : Nat} {x : α} {y : β}, Paired F xs ys → F x y → F (xs.getD i x) (ys.getD i y)
  | _, _, _, _, _, .nil, h => by simpa using h
  | _, _, 0, _, _, .cons r t, h => by simpa using r
  | _, _, i + 1, _, _, .cons r t, h => by simpa using getD_pair (i := i) t h
theorem readD_at {K : PySem.W.Frag} {H : Hp} {m : DevM} {D : List (Option BD)} {a : Int} (h : Blks K H m.shown D) : BlkAt K H (readF m a) (readD D a) := by
  unfold readF readD
  rw [← Paired.length h]
  split
  · exact getD_pair h rfl
  · exact rfl
def sp_is_payload (K : PySem.W.Frag) : Sp := fun args_ H Q _ => ∃ (v : V) (o : Option BD), args_ = [v] ∧ BlkAt K H v o ∧ ∀ H', Same H H' → Q (.bl (payD o).isSome) H'
theorem i_is_payload {K : PySem.W.Frag} {args_ : List V} {H : Hp} {Q : V → Hp → Prop} {E : XK} {v : V} {o : Option BD} (ev : args_ = [v]) (h : BlkAt K H v o) (q : ∀ H', Same H H' → Q (.bl (payD o).isSome) H') : sp_is_payload K args_ H Q E := ⟨v, o, ev, h, q⟩
local macro_rules | `(tactic| walk_at "ca1") => `(tactic| with_reducible (refine' Sg.i_is_payload ?ev ?h ?_; (case ev => (with_unfolding_all rfl)); (case h => (with_unfolding_all walk_at "pr")); intros))

theorem ok_is_payload (T : Txt K mg) : FnOk P w K mg base CX0 1 T.a_is_payload T.fd_is_payload ["block"] (sp_is_payload K) := by
  refine T.F_is_payload.ok sc_is_payload (fun vs H Q E h => ?_) (fun cdv A outer s H vs Q E hr h => ?_)
  · obtain ⟨v, o, rfl, _⟩ := h
    rfl
  · refine ⟨_, (pss_one (ps_ret (pe_and (pe_cmp (pc_notN (pv 0)) rfl) (pe_one (pe_cmpR op_in_seq (pe_ix ix_tup (pv 0) pe_int (fun _ _ => rfl)) (pe_tup (pa_cons (pe_glob rfl T.c_DATA T.r_DATA) (pa_cons (pe_glob rfl T.c_NODE T.r_NODE) pa_nil))) (by with_unfolding_all rfl)))))), ?_⟩
    try dsimp only [cxOf, Cx.nox, Cx.wish]
    obtain ⟨v, o, rfl, h, q⟩ := h
    cases o with
    | none =>
      obtain rfl := h
      walk_at "go"
      exact q _ (Same.refl _)
    | some d =>
      obtain ⟨t, b, rfl, ht, hb⟩ := h
      walk_at "go"
      rename_i t1 n1 H1 s1 g1
      rw [in34']
      have e : (payD (some d)).isSome = decide (d.kind = 3 ∨ d.kind = 4) := by
        by_cases c : d.kind = 3 ∨ d.kind = 4
        · rw [payD_yes c, decide_eq_true c]; rfl
        · rw [payD_no c, decide_eq_false c]; rfl
      rw [← e]
      exact q _ s1
def sp_payload_of (K : PySem.W.Frag) : Sp := fun args_ H Q _ => ∃ (v : V) (o : Option BD), args_ = [v] ∧ BlkAt K H v o ∧ ∀ H' v', Same H H' → PlAt K H' v' (payD o) → Q v' H'
theorem i_payload_of {K : PySem.W.Frag} {args_ : List V} {H : Hp} {Q : V → Hp → Prop} {E : XK} {v : V} {o : Option BD} (ev : args_ = [v]) (h : BlkAt K H v o) (q : ∀ H' v', Same H H' → PlAt K H' v' (payD o) → Q v' H') : sp_payload_of K args_ H Q E := ⟨v, o, ev, h, q⟩
local macro_rules | `(tactic| walk_at "ca1") => `(tactic| with_reducible (refine' Sg.i_payload_of ?ev ?h ?_; (case ev => (with_unfolding_all rfl)); (case h => (with_unfolding_all walk_at "pr")); intros))

theorem ok_payload_of (T : Txt K mg) : FnOk P w K mg base CX0 2 T.a_payload_of T.fd_payload_of ["block"] (sp_payload_of K) := by
  refine T.F_payload_of.ok sc_payload_of (fun vs H Q E h => ?_) (fun cdv A outer s H vs Q E hr h => ?_)
  · obtain ⟨v, o, rfl, _⟩ := h
    rfl
  · refine ⟨_, (pss_cons (ps_if (pt_not (pt_val (pe_call (ok_is_payload T) (hr.mono (by decide)) rfl T.m_is_payload T.F_is_payload.kp T.b_is_payload .nil pass0 (pa_cons (pv 0) pa_nil))))
       (pss_one (ps_ret pe_non))
       pss_nil)
       (pss_one (ps_ret (pe_tup (pa_cons (pe_ix ix_tup (pv 0) pe_int (fun _ _ => rfl)) (pa_cons (pe_ix ix_tup (pv 0) pe_int (fun _ _ => rfl)) pa_nil)))))), ?_⟩
    try dsimp only [cxOf, Cx.nox, Cx.wish]
    obtain ⟨v, o, rfl, h, q⟩ := h
    walk_at "go"
    rename_i H1 s1
    have h1 := h.keeps (Keeps.of s1)
    refine to_ite (fun hc => ?_) (fun hc => ?_)
    · walk_at "go"
      have e : payD o = none := by
        cases z : payD o with
        | none => rfl
        | some p => rw [z] at hc; cases hc
      exact q _ _ s1 (by rw [e]; exact rfl)
    · cases o with
      | none => cases hc
      | some d =>
        obtain ⟨t, b, rfl, ht, hb⟩ := h1
        have e : payD (some d) = some (d.kind, d.body) := by
          by_cases c : d.kind = 3 ∨ d.kind = 4
          · exact payD_yes c
          · rw [payD_no c] at hc; cases hc
        walk_at "go"
        rename_i t2 n2 H2 s2 g2
        exact q _ _ (s1.trans s2) (by rw [e]; exact ⟨t2, b, rfl, .of g2, hb.keeps (Keeps.of s2)⟩)
def sp_stamped (K : PySem.W.Frag) : Sp := fun args_ H Q _ => ∃ (v : V) (p : Int × Body) (i j : Int), args_ = [v, .int i, .int j] ∧ PlAt K H v (some p) ∧ ∀ H' v', Same H H' → BlkAt K H' v' (some ⟨p.1, i, j, p.2⟩) → Q v' H'
theorem i_stamped {K : PySem.W.Frag} {args_ : List V} {H : Hp} {Q : V → Hp → Prop} {E : XK} {v : V} {p : Int × Body} {i j : Int} (ev : args_ = [v, .int i, .int j]) (h : PlAt K H v (some p)) (q : ∀ H' v', Same H H' → BlkAt K H' v' (some ⟨p.1, i, j, p.2⟩) → Q v' H') : sp_stamped K args_ H Q E := ⟨v, p, i, j, ev, h, q⟩
local macro_rules | `(tactic| walk_at "ca1") => `(tactic| with_reducible (refine' Sg.i_stamped ?ev ?h ?_; (case ev => (with_unfolding_all rfl)); (case h => (with_unfolding_all walk_at "pr")); intros))

theorem ok_stamped (T : Txt K mg) : FnOk P w K mg base CX0 1 T.a_stamped T.fd_stamped ["payload", "sequence", "rank"] (sp_stamped K) := by
  refine T.F_stamped.ok sc_stamped (fun vs H Q E h => ?_) (fun cdv A outer s H vs Q E hr h => ?_)
  · obtain ⟨v, p, i, j, rfl, _⟩ := h
    rfl
  · refine ⟨_, (pss_one (ps_ret (pe_tup (pa_cons (pe_ix ix_tup (pv 0) pe_int (fun _ _ => rfl)) (pa_cons (pv 1) (pa_cons (pv 2) (pa_cons (pe_ix ix_tup (pv 0) pe_int (fun _ _ => rfl)) pa_nil))))))), ?_⟩
    try dsimp only [cxOf, Cx.nox, Cx.wish]
    obtain ⟨v, p, i, j, rfl, h, q⟩ := h
    obtain ⟨t, b, rfl, ht, hb⟩ := h
    walk_at "go"
    rename_i t2 n2 H2 s2 g2
    exact q _ _ s2 ⟨t2, b, rfl, .of g2, hb.keeps (Keeps.of s2)⟩
def sp_address_at (CL : Addr) : Sp := fun args_ H Q _ => ∃ (p : Addr) (L : Lay) (x y : Int), args_ = [.ref p, .int x, .int y] ∧ LayAt CL L H p ∧ LayC L ∧ 0 ≤ x ∧ x ≤ 1000 ∧ Q (.int (2 * L.reg + x * L.blk + y)) H
theorem i_address_at {CL : Addr} {args_ : List V} {H : Hp} {Q : V → Hp → Prop} {E : XK} {p : Addr} {L : Lay} {x y : Int} (ev : args_ = [.ref p, .int x, .int y]) (hL : LayAt CL L H p) (hC : LayC L) (x0 : 0 ≤ x) (x1 : x ≤ 1000) (q : Q (.int (2 * L.reg + x * L.blk + y)) H) : sp_address_at CL args_ H Q E := ⟨p, L, x, y, ev, hL, hC, x0, x1, q⟩
local macro_rules | `(tactic| walk_at "ca1") => `(tactic| with_reducible (refine' Sg.i_address_at ?ev ?hL ?hC ?x0 ?x1 ?_; (case ev => (with_unfolding_all rfl)); (case hL => (with_unfolding_all walk_at "pr")); (case hC => (with_unfolding_all walk_at "pr")); (case x0 => (with_unfolding_all walk_at "pr")); (case x1 => (with_unfolding_all walk_at "pr"))))

theorem ok_address_at (T : Txt K mg) : FnOk P w K mg base CX0 1 T.a_address_at T.fd_address_at ["layout", "segment", "place"] (sp_address_at T.A_Layout) := by
  refine T.F_address_at.ok sc_address_at (fun vs H Q E h => ?_) (fun cdv A outer s H vs Q E hr h => ?_)
  · obtain ⟨p, L, x, y, rfl, _⟩ := h
    rfl
  · refine ⟨_, (pss_one (ps_ret (pe_op op_add (pe_op op_add (pe_op op_mul pe_int (pe_fld (pv 0) rfl)) (pe_op op_mul (pv 1) (pe_fld (pv 0) rfl))) (pv 2)))), ?_⟩
    try dsimp only [cxOf, Cx.nox, Cx.wish]
    obtain ⟨p, L, x, y, rfl, hL, hC, x0, x1, q⟩ := h
    have cl_Layout := T.cl_Layout
    have na_Layout_region_blocks := T.na_Layout_region_blocks
    have na_Layout_segment_blocks := T.na_Layout_segment_blocks
    obtain ⟨dx, fs, hp, F⟩ := id hL
    have l1 := F.reg
    have l2 := F.blk
    have a1 := hC.r0
    have a2 := hC.r1
    have a3 := hC.b0
    have a4 := hC.b1
    walk_at "go"
    exact q
def sp_payload_at (K : PySem.W.Frag) (C CD CC CL : Addr) : Sp := fun args_ H Q _ => ∃ (G : Hp) (g : Addr) (u : LU) (W : LgM) (L : Lay) (D : List (Option BD)) (a : Int), args_ = [.ref g, .int a] ∧ LogQ K C CD CC CL L G H g u W ∧ Blks K H W.m.shown D ∧ ∀ H' v', Same H H' → PlAt K H' v' (payD (readD D a)) → Q v' H'
theorem i_payload_at {K : PySem.W.Frag} {C CD CC CL : Addr} {args_ : List V} {H : Hp} {Q : V → Hp → Prop} {E : XK} {G : Hp} {g : Addr} {u : LU} {W : LgM} {L : Lay} {D : List (Option BD)} {a : Int} (ev : args_ = [.ref g, .int a]) (hQ : LogQ K C CD CC CL L G H g u W) (hD : Blks K H W.m.shown D) (q : ∀ H' v', Same H H' → PlAt K H' v' (payD (readD D a)) → Q v' H') : sp_payload_at K C CD CC CL args_ H Q E := ⟨G, g, u, W, L, D, a, ev, hQ, hD, q⟩
local macro_rules | `(tactic| walk_at "ca1") => `(tactic| with_reducible (refine' Sg.i_payload_at ?ev ?hQ ?hD ?_; (case ev => (with_unfolding_all rfl)); (case hQ => (with_unfolding_all walk_at "pr")); (case hD => (with_unfolding_all walk_at "pr")); intros))

theorem ok_payload_at (T : Txt K mg) : FnOk P w K mg base CX0 3 T.a_payload_at T.fd_payload_at ["log", "address"] (sp_payload_at K T.A_Log T.A_Device T.A_Counts T.A_Layout) := by
  refine T.F_payload_at.ok sc_payload_at (fun vs H Q E h => ?_) (fun cdv A outer s H vs Q E hr h => ?_)
  · obtain ⟨G, g, u, W, L, D, a, rfl, _⟩ := h
    rfl
  · refine ⟨_, (pss_one (ps_ret (pe_call (ok_payload_of T) (hr.mono (by decide)) rfl T.m_payload_of T.F_payload_of.kp T.b_payload_of .nil pass0 (pa_cons (pe_meth (pe_fld (pv 0) rfl) T.cl_Device T.me_Device_read (ok_Device_read T) (hr.mono (by decide)) T.b_Device_read .nil pass0 (pa_cons (pv 1) pa_nil)) pa_nil)))), ?_⟩
    try dsimp only [cxOf, Cx.nox, Cx.wish]
    obtain ⟨G, g, u, W, L, D, a, rfl, hQ, hD, q⟩ := h
    have cl_Device := T.cl_Device
    have cl_Log := T.cl_Log
    have na_Log_device := T.na_Log_device
    obtain ⟨dx, fs, hg, F⟩ := hQ.obj
    have l1 := F.dev
    have hDv := hQ.dev
    obtain ⟨dxd, fsd, usd, hd1, hd2, _⟩ := id hDv
    have nR := hd2.nR
    walk_at "go"
    exact i_payload_of rfl (readD_at hD) q

/-! ### slices of lists of ints -/
theorem sIx_nn {n d : Nat} {v : Int} (h : 0 ≤ v) : HT.sIx n d (some v) = min v.toNat n := by
  show (if v < 0 then (v + (n : Int)).toNat else min v.toNat n) = _
  rw [if_neg (by omega)]
theorem cut_from {xs : List V} {lo : Int} (h : 0 ≤ lo) : cutV xs (some lo) none = xs.drop lo.toNat := by
  unfold cutV
  rw [sIx_nn h, HT.sIx_none]
  by_cases c : lo.toNat ≤ xs.length
  · rw [Nat.min_eq_left c]
    exact List.take_of_length_le (by rw [List.length_drop]; omega)
  · rw [Nat.min_eq_right (by omega), List.drop_length, List.drop_of_length_le (by omega), List.take_nil]
theorem cut_to {xs : List V} {hi : Int} (h : 0 ≤ hi) : cutV xs none (some hi) = xs.take hi.toNat := by
  unfold cutV
  rw [sIx_nn h, HT.sIx_none, List.drop_zero, Nat.sub_zero]
  by_cases c : hi.toNat ≤ xs.length
  · rw [Nat.min_eq_left c]
  · rw [Nat.min_eq_right (by omega), List.take_length, List.take_of_length_le (by omega)]
theorem cut_both {xs : List V} {lo hi : Int} (h : 0 ≤ lo) (h' : 0 ≤ hi) : cutV xs (some lo) (some hi) = (xs.drop lo.toNat).take (hi.toNat - lo.toNat) := by
  unfold cutV
  rw [sIx_nn h, sIx_nn h']
  by_cases c : lo.toNat ≤ xs.length
  · rw [Nat.min_eq_left c]
    by_cases c2 : hi.toNat ≤ xs.length
    · rw [Nat.min_eq_left c2]
    · rw [Nat.min_eq_right (by omega), List.take_of_length_le (by rw [List.length_drop]; omega), List.take_of_length_le (by rw [List.length_drop]; omega)]
  · rw [Nat.min_eq_right (by omega : xs.length ≤ lo.toNat), List.drop_length, List.drop_of_length_le (by omega), List.take_nil, List.take_nil]

/-! lists of ints, however they were made -/
def AreI (vs : List V) (xs : List Int) : Prop := vs = xs.map V.int
theorem AreI.map {xs : List Int} : AreI (xs.map V.int) xs := rfl
theorem AreI.nil : AreI [] [] := rfl
theorem AreI.cons {vs : List V} {xs : List Int} {x : Int} (h : AreI vs xs) : AreI (.int x :: vs) (x :: xs) := by rw [AreI, h]; rfl
theorem AreI.rep {k : Nat} {x : Int} : AreI (List.replicate k (.int x)) (List.replicate k x) := List.map_replicate.symm
theorem AreI.app {vs us : List V} {xs ys : List Int} (h : AreI vs xs) (h' : AreI us ys) : AreI (vs ++ us) (xs ++ ys) := by rw [AreI, h, h', List.map_append]
theorem r_catI {l p : Addr} {vs us : List V} {xs ys : List Int} {H : Hp} {Q : V → Hp → Prop} (h : H l = some (.lst vs)) (h' : H p = some (.lst us)) (e : AreI vs xs) (e' : AreI us ys) (hz : xs.length + ys.length ≤ 1000000)
    (q : ∀ (H' : Hp) (r : Addr), Same H H' → H r = none → H' r = some (.lst ((xs ++ ys).map V.int)) → Q (.ref r) H') : rCat (.ref l) (.ref p) H Q := by
  rw [AreI] at e e'
  subst e e'
  refine r_cat h h' (by rw [List.length_map, List.length_map, sz]; omega) fun r nr => ?_
  refine q _ r (Same.of_new rfl nr) nr ?_
  rw [upd_same, List.map_append]
local macro_rules | `(tactic| walk_at "arei") => `(tactic| first | exact Sg.AreI.map | exact Sg.AreI.nil | exact Sg.AreI.rep | (refine' Sg.AreI.cons ?h; (case h => walk_at "arei")) | (refine' Sg.AreI.app ?h ?h'; (case h => walk_at "arei"); (case h' => walk_at "arei")))
local macro_rules | `(tactic| walk_at "rd1") => `(tactic| with_reducible (refine' Sg.r_catI ?h ?h' ?e ?e' ?hz ?_; (case h => (with_unfolding_all walk_at "hp")); (case h' => (with_unfolding_all walk_at "hp")); (case e => walk_at "arei"); (case e' => walk_at "arei"); (case hz => (with_unfolding_all walk_at "ln")); intros))
theorem r_slF {K : PySem.W.Frag} {H : Hp} {a : Addr} {vs : List V} {ns : List Int} {lo : Int} {Q : V → Hp → Prop} (h : SqL K H a vs) (e : AreI vs ns) (h0 : 0 ≤ lo) (q : ∀ (H' : Hp) (p : Addr), Same H H' → H p = none → H' p = some (.lst ((ns.drop lo.toNat).map V.int)) → Q (.ref p) H') : rSlL K (.ref a) (some lo) none H Q := by
  rw [AreI] at e
  subst e
  refine ⟨a, _, rfl, h, fun p np => q _ p (Same.of_new rfl np) np ?_⟩
  rw [upd_same, cut_from h0, List.map_drop]
theorem r_slT' {K : PySem.W.Frag} {H : Hp} {a : Addr} {vs : List V} {ns : List Int} {hi : Int} {Q : V → Hp → Prop} (h : SqL K H a vs) (e : AreI vs ns) (h0 : 0 ≤ hi) (q : ∀ (H' : Hp) (p : Addr), Same H H' → H p = none → H' p = some (.lst ((ns.take hi.toNat).map V.int)) → Q (.ref p) H') : rSlL K (.ref a) none (some hi) H Q := by
  rw [AreI] at e
  subst e
  refine ⟨a, _, rfl, h, fun p np => q _ p (Same.of_new rfl np) np ?_⟩
  rw [upd_same, cut_to h0, List.map_take]
theorem r_slB {K : PySem.W.Frag} {H : Hp} {a : Addr} {vs : List V} {ns : List Int} {lo hi : Int} {Q : V → Hp → Prop} (h : SqL K H a vs) (e : AreI vs ns) (h0 : 0 ≤ lo) (h1 : 0 ≤ hi) (q : ∀ (H' : Hp) (p : Addr), Same H H' → H p = none → H' p = some (.lst (((ns.drop lo.toNat).take (hi.toNat - lo.toNat)).map V.int)) → Q (.ref p) H') : rSlL K (.ref a) (some lo) (some hi) H Q := by
  rw [AreI] at e
  subst e
  refine ⟨a, _, rfl, h, fun p np => q _ p (Same.of_new rfl np) np ?_⟩
  rw [upd_same, cut_both h0 h1, List.map_take, List.map_drop]
local macro_rules | `(tactic| walk_at "rd1") => `(tactic| with_reducible (first | (refine' Sg.r_slF ?h ?e ?h0 ?_; (case h => (with_unfolding_all walk_at "hp")); (case e => walk_at "arei"); (case h0 => omega); intros) | (refine' Sg.r_slT' ?h ?e ?h0 ?_; (case h => (with_unfolding_all walk_at "hp")); (case e => walk_at "arei"); (case h0 => omega); intros) | (refine' Sg.r_slB ?h ?e ?h0 ?h1 ?_; (case h => (with_unfolding_all walk_at "hp")); (case e => walk_at "arei"); (case h0 => omega); (case h1 => omega); intros)))

/-! ### deeds on a log -/
def sp_enter_next_segment (K : PySem.W.Frag) (C CD CC CL : Addr) : Sp := fun args_ H Q _ => ∃ (G : Hp) (g : Addr) (u : LU) (W : LgM) (L : Lay) (h : Int) (t : List Int), args_ = [.ref g] ∧ LogQ K C CD CC CL L G H g u W ∧ Frm (mutL g u) G H ∧ W.queue = h :: t ∧ ∀ G' H' u', LogS K C CD CC CL L g G H u G' H' u' { W with head := h, queue := t, place := 0 } → Q .non H'
theorem i_enter_next_segment {K : PySem.W.Frag} {C CD CC CL : Addr} {args_ : List V} {H : Hp} {Q : V → Hp → Prop} {E : XK} {G : Hp} {g : Addr} {u : LU} {W : LgM} {L : Lay} {h : Int} {t : List Int} (ev : args_ = [.ref g]) (hQ : LogQ K C CD CC CL L G H g u W) (hF : Frm (mutL g u) G H) (hq : W.queue = h :: t) (q : ∀ G' H' u', LogS K C CD CC CL L g G H u G' H' u' { W with head := h, queue := t, place := 0 } → Q .non H') : sp_enter_next_segment K C CD CC CL args_ H Q E := ⟨G, g, u, W, L, h, t, ev, hQ, hF, hq, q⟩
local macro_rules | `(tactic| walk_at "ca1") => `(tactic| with_reducible (refine' Sg.i_enter_next_segment ?ev ?hQ ?hF ?hq ?_; (case ev => (with_unfolding_all rfl)); (case hQ => (with_unfolding_all walk_at "pr")); (case hF => (with_unfolding_all walk_at "pr")); (case hq => (with_unfolding_all walk_at "pr")); intros))

theorem ok_enter_next_segment (T : Txt K mg) : FnOk P w K mg base CX0 1 T.a_enter_next_segment T.fd_enter_next_segment ["log"] (sp_enter_next_segment K T.A_Log T.A_Device T.A_Counts T.A_Layout) := by
  refine T.F_enter_next_segment.ok sc_enter_next_segment (fun vs H Q E h => ?_) (fun cdv A outer s H vs Q E hr h => ?_)
  · obtain ⟨G, g, u, W, L, h, t, rfl, _⟩ := h
    rfl
  · refine ⟨_, (pss_cons (ps_fld (pv 0) (pe_ix ix_list (pe_fld (pv 0) rfl) pe_int (fun _ _ => rfl)) rfl)
       (pss_cons (ps_fld (pv 0) (pe_slice sl_list (pe_fld (pv 0) rfl) (po_some pe_int) po_none) rfl)
       (pss_one (ps_fld (pv 0) pe_int rfl)))), ?_⟩
    try dsimp only [cxOf, Cx.nox, Cx.wish]
    obtain ⟨G, g, u, W, L, h, t, rfl, hQ, hF, hq, q⟩ := h
    have cl_Log := T.cl_Log
    have na_Log_head := T.na_Log_head
    have na_Log_place := T.na_Log_place
    have na_Log_queue := T.na_Log_queue
    obtain ⟨dx, fs, hg, F⟩ := hQ.obj
    have l1 := F.qa
    have few := F.few
    have hqa : H u.qa = some (.lst (.int h :: t.map V.int)) := by
      have := hF.gh _ _ hQ.sta.qa
      rw [hq] at this
      exact this
    walk_at "go"
    refine r_ixl (.of hqa) (atI_nat (j := 0) rfl) ?_
    walk_at "go"
    rename_i H1 e1 g1 H2 qa s2 n2 g2 H3 e3 g3 H4 e4 g4
    have ex1 : ExL [g] H H1 := ExL.put (by simp) e1
    have ex : ExL [g] H H4 := ((ex1.then_ (ExL.of s2)).then_ (ExL.put (by simp) e3)).then_ (ExL.put (by simp) e4)
    have kp : Keeps H H4 := (Keeps.upd hg insNF e1).trans ((Keeps.of s2).trans ((Keeps.upd (s2 _ _ g1) insNF e3).trans (Keeps.upd g3 insNF e4)))
    have nq : H qa = none := ex1.back1 g1 n2
    have neq : qa ≠ g := fun z => by rw [z, g1] at n2; cases n2
    have gq : H4 qa = some (.lst (t.map V.int)) := by
      rw [← e4, upd_ne neq, ← e3, upd_ne neq]
      exact g2
    refine q _ _ _ (hQ.own (u' := { u with qa := qa }) hF ex kp g4 (((F.head' h).qa' qa t).place' 0) rfl rfl rfl ?_ (PartOf.qa' nq))
    have gg : Same G (grow G H H4) := fun x o h => by rw [grow_old (fun z => by rw [hF.gh _ _ h] at z; cases z)]; exact h
    exact ⟨hQ.sta.lay.mono gg, gg _ _ hQ.sta.pr, gg _ _ hQ.sta.sl, hQ.sta.sls.mono gg, by rw [grow_new nq]; exact gq⟩

theorem i_commit {K : PySem.W.Frag} {args_ : List V} {H : Hp} {Q : V → Hp → Prop} {E : XK} {t i u : Addr} {table ids used : List Int} {start : Int} (ev : args_ = [.ref t, .int start, .ref i, .ref u]) (ht : SqL K H t (table.map V.int)) (hi : SqI K H i ids) (hu : SqI K H u used) (lt : table.length ≤ 4000) (lu : used.length ≤ 4000) (q : ∀ (H' : Hp) (l : Addr) (zs : List Int), Same H H' → H l = none → H' l = some (.lst (zs.map V.int)) → zs.length = table.length → (∀ (k : Nat) (z : Int), zs[k]? = some z → z = if (k : Int) ∈ used then (commitN table start ids ids.length).getD k 0 else 0) → Q (.ref l) H') : sp_commit K args_ H Q E := ⟨t, i, u, table, ids, used, start, ev, ht, hi, hu, lt, lu, q⟩
local macro_rules | `(tactic| walk_at "ca1") => `(tactic| with_reducible (refine' Sg.i_commit ?ev ?ht ?hi ?hu ?lt ?lu ?_; (case ev => (with_unfolding_all rfl)); (case ht => (with_unfolding_all walk_at "pr")); (case hi => (with_unfolding_all walk_at "pr")); (case hu => (with_unfolding_all walk_at "pr")); (case lt => (with_unfolding_all walk_at "pr")); (case lu => (with_unfolding_all walk_at "pr")); intros))

theorem i_move {K : PySem.W.Frag} {args_ : List V} {H : Hp} {Q : V → Hp → Prop} {E : XK} {t i : Addr} {table ids : List Int} {start : Int} (ev : args_ = [.ref t, .int start, .ref i]) (ht : SqL K H t (table.map V.int)) (hi : SqI K H i ids) (lt : table.length ≤ 4000) (li : ids.length ≤ 4000) (q : ∀ (H' : Hp) (l : Addr) (zs : List Int), Same H H' → H l = none → H' l = some (.lst (zs.map V.int)) → zs.length = table.length → (∀ (k : Nat) (z : Int), zs[k]? = some z → z = moveOf start ids (table.getD k 0)) → Q (.ref l) H') : sp_move K args_ H Q E := ⟨t, i, table, ids, start, ev, ht, hi, lt, li, q⟩
local macro_rules | `(tactic| walk_at "ca1") => `(tactic| with_reducible (refine' Sg.i_move ?ev ?ht ?hi ?lt ?li ?_; (case ev => (with_unfolding_all rfl)); (case ht => (with_unfolding_all walk_at "pr")); (case hi => (with_unfolding_all walk_at "pr")); (case lt => (with_unfolding_all walk_at "pr")); (case li => (with_unfolding_all walk_at "pr")); intros))

theorem i_slots_after {K : PySem.W.Frag} {args_ : List V} {H : Hp} {Q : V → Hp → Prop} {E : XK} {l t : Addr} {a : Int} {xs : List V} {os : List (Option (List Int))} {ts : List Int} (ev : args_ = [.ref l, .ref t, .int a]) (hl : SqL K H l xs) (ho : SlotsAre H xs os) (h3 : xs.length = 3) (ht : H t = some (.lst (ts.map V.int))) (a0 : 0 ≤ a) (a6 : a ≤ 6) (q : ∀ (H' : Hp) (p : Addr) (ys : List V), Same H H' → H p = none → H' p = some (.lst ys) → SlotsAre H' ys (slotsF os ts a) → (∀ r, V.ref r ∈ ys → H r = none ∧ r ≠ p) → Q (.ref p) H') : sp_slots_after K args_ H Q E := ⟨l, t, a, xs, os, ts, ev, hl, ho, h3, ht, a0, a6, q⟩
local macro_rules | `(tactic| walk_at "ca1") => `(tactic| with_reducible (refine' Sg.i_slots_after ?ev ?hl ?ho ?h3 ?ht ?a0 ?a6 ?_; (case ev => (with_unfolding_all rfl)); (case hl => (with_unfolding_all walk_at "pr")); (case ho => (with_unfolding_all walk_at "pr")); (case h3 => (with_unfolding_all walk_at "pr")); (case ht => (with_unfolding_all walk_at "pr")); (case a0 => (with_unfolding_all walk_at "pr")); (case a6 => (with_unfolding_all walk_at "pr")); intros))

def commitF (table : List Int) (start : Int) (ids used : List Int) : List Int := (List.range table.length).map fun k : Nat => if (k : Int) ∈ used then (commitN table start ids ids.length).getD k 0 else 0
def moveF (start : Int) (ids table : List Int) : List Int := table.map (moveOf start ids)
theorem commit_eq {table ids used zs : List Int} {start : Int} (el : zs.length = table.length) (h : ∀ (k : Nat) (z : Int), zs[k]? = some z → z = if (k : Int) ∈ used then (commitN table start ids ids.length).getD k 0 else 0) : zs = commitF table start ids used := by
  refine List.ext_getElem (by rw [commitF, List.length_map, List.length_range, el]) fun i h1 h2 => ?_
  rw [h i _ (List.getElem?_eq_getElem h1)]
  simp only [commitF, List.getElem_map, List.getElem_range]
theorem move_eq {table ids zs : List Int} {start : Int} (el : zs.length = table.length) (h : ∀ (k : Nat) (z : Int), zs[k]? = some z → z = moveOf start ids (table.getD k 0)) : zs = moveF start ids table := by
  refine List.ext_getElem (by rw [moveF, List.length_map, el]) fun i h1 h2 => ?_
  rw [h i _ (List.getElem?_eq_getElem h1)]
  simp only [moveF, List.getElem_map]
  rw [List.getD_eq_getElem?_getD, List.getElem?_eq_getElem (by omega)]
  rfl
theorem commitF_len {table ids used : List Int} {start : Int} : (commitF table start ids used).length = table.length := by rw [commitF, List.length_map, List.length_range]
theorem moveF_len {table ids : List Int} {start : Int} : (moveF start ids table).length = table.length := by rw [moveF, List.length_map]
def sp_listed_in (K : PySem.W.Frag) : Sp := fun args_ H Q _ => ∃ (v : V) (d : BD) (ns : List Int), args_ = [v] ∧ BlkAt K H v (some d) ∧ ((d.kind = 1 ∧ ∃ used a, d.body = .com ns used a) ∨ (d.kind ≠ 1 ∧ d.body = .ints ns)) ∧ ∀ x, SqT K H x (ns.map V.int) → Q (.ref x) H
theorem i_listed_in {K : PySem.W.Frag} {args_ : List V} {H : Hp} {Q : V → Hp → Prop} {E : XK} {v : V} {d : BD} {ns : List Int} (ev : args_ = [v]) (h : BlkAt K H v (some d)) (hd : ((d.kind = 1 ∧ ∃ used a, d.body = .com ns used a) ∨ (d.kind ≠ 1 ∧ d.body = .ints ns))) (q : ∀ x, SqT K H x (ns.map V.int) → Q (.ref x) H) : sp_listed_in K args_ H Q E := ⟨v, d, ns, ev, h, hd, q⟩
local macro_rules | `(tactic| walk_at "ca1") => `(tactic| with_reducible (refine' Sg.i_listed_in ?ev ?h ?hd ?_; (case ev => (with_unfolding_all rfl)); (case h => (with_unfolding_all walk_at "pr")); (case hd => (with_unfolding_all walk_at "pr")); intros))

theorem ok_listed_in (T : Txt K mg) : FnOk P w K mg base CX0 1 T.a_listed_in T.fd_listed_in ["summary"] (sp_listed_in K) := by
  refine T.F_listed_in.ok sc_listed_in (fun vs H Q E h => ?_) (fun cdv A outer s H vs Q E hr h => ?_)
  · obtain ⟨v, d, ns, rfl, _⟩ := h
    rfl
  · refine ⟨_, (pss_cons (ps_if (pt_cmpR op_eq (pe_ix ix_tup (pv 0) pe_int (fun _ _ => rfl)) (pe_glob rfl T.c_COMMIT T.r_COMMIT) (nomark _))
       (pss_one (ps_ret (pe_ix ix_tup (pe_ix ix_tup (pv 0) pe_int (fun _ _ => rfl)) pe_int (fun _ _ => rfl))))
       pss_nil)
       (pss_one (ps_ret (pe_ix ix_tup (pv 0) pe_int (fun _ _ => rfl))))), ?_⟩
    try dsimp only [cxOf, Cx.nox, Cx.wish]
    obtain ⟨v, d, ns, rfl, h, hd, q⟩ := h
    obtain ⟨t, b, rfl, ht, hb⟩ := h
    rcases hd with ⟨hk, used, a, e⟩ | ⟨hk, e⟩
    · rw [e] at hb
      obtain ⟨x, y, h1, h2, h3⟩ := hb
      walk_at "go"
      exact q _ h2
    · rw [e] at hb
      have hb' : SqT K H b (ns.map V.int) := hb
      walk_at "go"
      exact q _ hb'
/-- what is known of a log's parts -/
structure WOk (L : Lay) (W : LgM) : Prop where
  pl : W.present.length = (L.last + 1).toNat
  sl : W.slots.length = 3
  st : ∀ ns, some ns ∈ W.slots → ns.length = (L.last + 1).toNat
  h0 : 0 ≤ W.head
  h1 : W.head < L.seg
/-- present and slots behind a batch -/
def takeP (L : Lay) (W : LgM) (d : BD) : LgM := match d.body with
  | .com ids used a => { W with present := commitF W.present (2 * L.reg + W.head * L.blk + W.place + 1) ids used, slots := slotsF W.slots (commitF W.present (2 * L.reg + W.head * L.blk + W.place + 1) ids used) a }
  | .ints ids => { W with slots := W.slots.map (Option.map (moveF (2 * L.reg + W.head * L.blk + W.place + 1) ids)), present := moveF (2 * L.reg + W.head * L.blk + W.place + 1) ids W.present }
def cntOf (d : BD) : Nat := match d.body with
  | .com ids _ _ => ids.length
  | .ints ids => ids.length
def takeW (L : Lay) (W : LgM) (d : BD) : LgM := { takeP L W d with place := W.place + 1 + cntOf d, last := d.seq }
theorem takeP_com {L : Lay} {W : LgM} {d : BD} {ids used : List Int} {a : Int} (e : d.body = .com ids used a) : takeP L W d = { W with present := commitF W.present (2 * L.reg + W.head * L.blk + W.place + 1) ids used, slots := slotsF W.slots (commitF W.present (2 * L.reg + W.head * L.blk + W.place + 1) ids used) a } := by
  unfold takeP
  rw [e]
theorem takeP_ints {L : Lay} {W : LgM} {d : BD} {ids : List Int} (e : d.body = .ints ids) : takeP L W d = { W with slots := W.slots.map (Option.map (moveF (2 * L.reg + W.head * L.blk + W.place + 1) ids)), present := moveF (2 * L.reg + W.head * L.blk + W.place + 1) ids W.present } := by
  unfold takeP
  rw [e]
theorem takeP_rest {L : Lay} {W : LgM} {d : BD} : (takeP L W d).m = W.m ∧ (takeP L W d).cs = W.cs ∧ (takeP L W d).place = W.place := by unfold takeP; split <;> exact ⟨rfl, rfl, rfl⟩
theorem SlotsAre.got {G H H' : Hp} : ∀ {vs : List V} {os : List (Option (List Int))}, SlotsAre H' vs os → (∀ r, V.ref r ∈ vs → H r = none) → SlotsAre (grow G H H') vs os
  | _, _, .nil, _ => .nil
  | _, _, .cons (b := none) h t, n => .cons h (SlotsAre.got t fun r hr => n r (List.mem_cons_of_mem _ hr))
  | _, _, .cons (b := some ns) h t, n => by
    obtain ⟨x, rfl, hx⟩ := h
    exact .cons ⟨x, rfl, by rw [grow_new (n x (List.mem_cons_self ..))]; exact hx⟩ (SlotsAre.got t fun r hr => n r (List.mem_cons_of_mem _ hr))
def sp_take_batch (K : PySem.W.Frag) (C CD CC CL : Addr) : Sp := fun args_ H Q _ => ∃ (G : Hp) (g : Addr) (u : LU) (W : LgM) (L : Lay) (v : V) (d : BD), args_ = [.ref g, v] ∧ LogQ K C CD CC CL L G H g u W ∧ Frm (mutL g u) G H ∧ LayC L ∧ WOk L W ∧ BlkAt K H v (some d) ∧ ((d.kind = 1 ∧ ∃ ids used a, d.body = .com ids used a ∧ ids.length ≤ 4000 ∧ used.length ≤ 4000 ∧ 0 ≤ a ∧ a ≤ 6) ∨ (d.kind ≠ 1 ∧ ∃ ids, d.body = .ints ids ∧ ids.length ≤ 4000)) ∧ ∀ G' H' u', LogS K C CD CC CL L g G H u G' H' u' (takeW L W d) → Q .non H'
theorem i_take_batch {K : PySem.W.Frag} {C CD CC CL : Addr} {args_ : List V} {H : Hp} {Q : V → Hp → Prop} {E : XK} {G : Hp} {g : Addr} {u : LU} {W : LgM} {L : Lay} {v : V} {d : BD} (ev : args_ = [.ref g, v]) (hQ : LogQ K C CD CC CL L G H g u W) (hF : Frm (mutL g u) G H) (hC : LayC L) (hW : WOk L W) (hv : BlkAt K H v (some d)) (hd : ((d.kind = 1 ∧ ∃ ids used a, d.body = .com ids used a ∧ ids.length ≤ 4000 ∧ used.length ≤ 4000 ∧ 0 ≤ a ∧ a ≤ 6) ∨ (d.kind ≠ 1 ∧ ∃ ids, d.body = .ints ids ∧ ids.length ≤ 4000))) (q : ∀ G' H' u', LogS K C CD CC CL L g G H u G' H' u' (takeW L W d) → Q .non H') : sp_take_batch K C CD CC CL args_ H Q E := ⟨G, g, u, W, L, v, d, ev, hQ, hF, hC, hW, hv, hd, q⟩
local macro_rules | `(tactic| walk_at "ca1") => `(tactic| with_reducible (refine' Sg.i_take_batch ?ev ?hQ ?hF ?hC ?hW ?hv ?hd ?_; (case ev => (with_unfolding_all rfl)); (case hQ => (with_unfolding_all walk_at "pr")); (case hF => (with_unfolding_all walk_at "pr")); (case hC => (with_unfolding_all walk_at "pr")); (case hW => (with_unfolding_all walk_at "pr")); (case hv => (with_unfolding_all walk_at "pr")); (case hd => (with_unfolding_all walk_at "pr")); intros))

theorem ok_take_batch (T : Txt K mg) : FnOk P w K mg base CX0 3 T.a_take_batch T.fd_take_batch ["log", "summary"] (sp_take_batch K T.A_Log T.A_Device T.A_Counts T.A_Layout) := by
  refine T.F_take_batch.ok sc_take_batch (fun vs H Q E h => ?_) (fun cdv A outer s H vs Q E hr h => ?_)
  · obtain ⟨G, g, u, W, L, v, d, rfl, _⟩ := h
    rfl
  · refine ⟨_, (pss_cons (ps_set (i := 2) sc_take_batch.nd rfl (Or.inr rfl) (pe_op op_add (pe_call (ok_address_at T) (hr.mono (by decide)) rfl T.m_address_at T.F_address_at.kp T.b_address_at .nil pass0 (pa_cons (pe_fld (pv 0) rfl) (pa_cons (pe_fld (pv 0) rfl) (pa_cons (pe_fld (pv 0) rfl) pa_nil)))) pe_int))
       (C8.pss_cut (ps_if (pt_cmpR op_eq (pe_ix ix_tup (pv 1) pe_int (fun _ _ => rfl)) (pe_glob rfl T.c_COMMIT T.r_COMMIT) (nomark _))
       (pss_cons (ps_asg (pe_ix ix_tup (pv 1) pe_int (fun _ _ => rfl)) (pg_tup (by rfl) (pgs_cons (pg_name (i := 3) sc_take_batch.nd rfl (Or.inl rfl)) (pgs_cons (pg_name (i := 4) sc_take_batch.nd rfl (Or.inl rfl)) (pgs_cons (pg_name (i := 5) sc_take_batch.nd rfl (Or.inl rfl)) pgs_nil)))))
       (pss_cons (ps_fld (pv 0) (pe_call (ok_commit_to_table T) (hr.mono (by decide)) rfl T.m_commit_to_table T.F_commit_to_table.kp T.b_commit_to_table .nil pass0 (pa_cons (pe_fld (pv 0) rfl) (pa_cons (pv 2) (pa_cons (pv 3) (pa_cons (pv 4) pa_nil))))) rfl)
       (pss_one (ps_fld (pv 0) (pe_call (ok_slots_after T) (hr.mono (by decide)) rfl T.m_slots_after T.F_slots_after.kp T.b_slots_after .nil pass0 (pa_cons (pe_fld (pv 0) rfl) (pa_cons (pe_fld (pv 0) rfl) (pa_cons (pv 5) pa_nil)))) rfl))))
       (pss_cons (ps_fld (pv 0) (pe_lc (own := [("slot", 6)]) (g := gName 6) (tt := tYes) rfl sc_take_batch.nd (pi_list (pe_fld (pv 0) rfl)) (blkOk_by (own := [("slot", 6)]) (N := n_take_batch) (sc := defScope s_take_batch) (by decide +kernel)) (fun _ _ _ _ _ => pg_name (i := 6) sc_take_batch.nd rfl (Or.inl rfl)) (fun _ _ _ _ _ => pts_nil) (fun _ _ _ _ _ => (pe_ifExp (pt_cmp (pc_isN (pv 6)) rfl) pe_non (pe_call (ok_move_in_table T) (hr.mono (by decide)) rfl T.m_move_in_table T.F_move_in_table.kp T.b_move_in_table .nil pass0 (pa_cons (pv 6) (pa_cons (pv 2) (pa_cons (pe_ix (ix_tupK K rfl) (pv 1) pe_int (fun _ _ => rfl)) pa_nil))))))) rfl)
       (pss_one (ps_fld (pv 0) (pe_call (ok_move_in_table T) (hr.mono (by decide)) rfl T.m_move_in_table T.F_move_in_table.kp T.b_move_in_table .nil pass0 (pa_cons (pe_fld (pv 0) rfl) (pa_cons (pv 2) (pa_cons (pe_ix ix_tup (pv 1) pe_int (fun _ _ => rfl)) pa_nil)))) rfl))))
       (pss_cons (ps_fld (pv 0) (pe_op op_add (pe_op op_add (pe_fld (pv 0) rfl) pe_int) (pe_callB (c_len) (by rfl) T.n_len (by decide +kernel) (pa_cons (pe_call (ok_listed_in T) (hr.mono (by decide)) rfl T.m_listed_in T.F_listed_in.kp T.b_listed_in .nil pass0 (pa_cons (pv 1) pa_nil)) pa_nil))) rfl)
       (pss_one (ps_fld (pv 0) (pe_ix ix_tup (pv 1) pe_int (fun _ _ => rfl)) rfl))))), ?_⟩
    try dsimp only [cxOf, Cx.nox, Cx.wish]
    obtain ⟨G, g, u, W, L, v, d, rfl, hQ, hF, hC, hW, hv, hd, q⟩ := h
    have cl_Device := T.cl_Device
    have cl_Log := T.cl_Log
    have na_Device_layout := T.na_Device_layout
    have na_Log_head := T.na_Log_head
    have na_Log_last_sequence := T.na_Log_last_sequence
    have na_Log_layout := T.na_Log_layout
    have na_Log_place := T.na_Log_place
    have na_Log_present := T.na_Log_present
    have na_Log_slots := T.na_Log_slots
    obtain ⟨dx, fs, hg, F⟩ := hQ.obj
    have l1 := F.lay
    have l2 := F.head
    have l3 := F.place
    have l4 := F.pr
    have l5 := F.sl
    have few := F.few
    have hLy := hQ.sta.lay.mono hF.gh
    have hpr := hF.gh _ _ hQ.sta.pr
    have hsl := hF.gh _ _ hQ.sta.sl
    have hss := hQ.sta.sls.mono hF.gh
    have h0 := hW.h0
    have h1 := hW.h1
    have s1 := hC.s1
    have pl := hW.pl
    have c1 := hC.l1
    obtain ⟨t, b, rfl, ht, hb⟩ := hv
    walk_at "go"
    generalize hst : 2 * L.reg + W.head * L.blk + W.place + 1 = start
    obtain ⟨hm1, hm2, hm3⟩ := takeP_rest (L := L) (W := W) (d := d)
    have o0 := Own.start hQ hF
    have hss3 : u.vs.length = 3 := by rw [Paired.length hss]; exact hW.sl
    refine r_cut (fun σ' H' => ∃ (v3 v4 v5 : Option V) (u1 : LU), σ' = [some (.ref g), some (.ref t), some (.int start), v3, v4, v5, none] ∧ Own K T.A_Log T.A_Layout L g G H H' u u1 (takeP L W d)) ?_ ?_
    · walk_at "go"
      rcases hd with ⟨hk, ids, used, a, e, li, lu, a0, a6⟩ | ⟨hk, ids, e, li⟩
      · rw [e] at hb
        obtain ⟨x, y, b1, b2, b3⟩ := hb
        have b2' : SqI K H x ids := .inr b2
        have b3' : SqI K H y used := .inr b3
        walk_at "go"
        rename_i H1 l zs s1 n1 g1 el hz H2 e2 g2
        have ez := commit_eq el hz
        subst ez
        have o1 := o0.same s1
        have o2 := o1.set hF (s1 _ _ hg) e2 (F.pr' l _) rfl (o1.sta.pr' (o1.got n1 g1)) (PartOf.pr' n1)
        have a2 := o2.at_ hF
        refine i_slots_after rfl (.of (a2 _ _ o2.sta.sl)) (o2.sta.sls.mono a2) hss3 (a2 _ _ o2.sta.pr) a0 a6 (fun H3 p ys s3 n3 g3 hys hr => ?_)
        have g23 := s3 _ _ g2
        walk_at "go"
        rename_i H4 e4 g4
        have o3 := o2.same s3
        have o4 := o3.set hF g23 e4 ((F.pr' l _).sl' p ys _) rfl (o3.sta.sl' (o3.got (o2.fresh n3) g3) (hys.got fun r h => o2.fresh (hr r h).1)) (PartOf.sl' (o2.fresh n3) fun r h => o2.fresh (hr r h).1)
        have hT := takeP_com (L := L) (W := W) e
        rw [hst] at hT
        exact ⟨_, _, _, _, rfl, o4.to hT⟩
      · rw [e] at hb
        have hb' : SqT K H b (ids.map V.int) := hb
        refine to_ite (fun c => absurd (of_decide_eq_true c) hk) (fun _ => ?_)
        walk_at "go"
        refine r_lcL (xs := u.vs) (fun i acc H0 => SlotsAre H0 acc ((W.slots.take i).map (Option.map (moveF start ids))) ∧ ∀ r, V.ref r ∈ acc → H r = none) (.of hsl) (by omega) rfl ⟨.nil, fun r hr => by cases hr⟩ ?_ ?_
        · rintro i x acc H0 H' hx s0 ⟨hp, hf⟩ s1 R hR
          obtain ⟨o, eo, hi⟩ := paired_at hss hx
          have et : (W.slots.take (i + 1)).map (Option.map (moveF start ids)) = (W.slots.take i).map (Option.map (moveF start ids)) ++ [Option.map (moveF start ids) o] := by rw [List.take_add_one, eo, List.map_append]; rfl
          have t' := Same.tup (s0.trans s1) ht
          have b' : SqI K H' b ids := .inr (Same.tup (s0.trans s1) hb')
          cases o with
          | none =>
            cases hi
            walk_at "go"
            refine hR _ _ (Same.refl _) fun D n0 n1 => ⟨?_, ?_⟩
            · rw [et]
              exact paired_snoc (SlotsAre.mono (same_hid s1 n0) hp) rfl
            · intro r hr
              rcases List.mem_append.mp hr with hr | hr
              · exact hf r hr
              · simp at hr
          | some ns =>
            obtain ⟨y, rfl, hy⟩ := hi
            have hy' := s1 _ _ (s0 _ _ hy)
            have ln := hW.st ns (List.mem_of_getElem? eo)
            walk_at "go"
            rename_i H2 p zs s2 n2 g2 el hz
            have ez := move_eq el hz
            subst ez
            refine hR _ _ s2 fun D n0 n1 => ⟨?_, ?_⟩
            · have hne : p ≠ D := fun e => n1 (by rw [← e]; exact n2)
              rw [et]
              exact paired_snoc (SlotsAre.mono (same_hid (s1.trans s2) n0) hp) ⟨p, rfl, by rw [hid_ne hne]; exact g2⟩
            · intro r hr
              rcases List.mem_append.mp hr with hr | hr
              · exact hf r hr
              · simp at hr
                subst hr
                exact (s0.trans s1).free n2
        · rintro H1 p acc s1 n1 g1 el ⟨hp, hf⟩
          have hos : W.slots.take u.vs.length = W.slots := List.take_of_length_le (by rw [hss3, hW.sl]; omega)
          rw [hos] at hp
          have t1 := Same.tup s1 ht
          have b1 : SqI K H1 b ids := .inr (Same.tup s1 hb')
          have hg1 := s1 _ _ hg
          have hacc : SlotsAre H1 acc (W.slots.map (Option.map (moveF start ids))) := SlotsAre.mono hid_same hp
          have o1 := o0.same s1
          walk_at "go"
          rename_i H2 e2 g2
          have o2 := o1.set hF hg1 e2 (F.sl' p acc _) rfl (o1.sta.sl' (o1.got n1 g1) (hacc.got hf)) (PartOf.sl' n1 hf)
          have a2 := o2.at_ hF
          have hpr2 := a2 _ _ o2.sta.pr
          dsimp only at hpr2
          have t2 := o2.kp.tup ht
          have b2 : SqI K H2 b ids := .inr (o2.kp.tup hb')
          walk_at "go"
          rename_i H3 l zs s3 n3 g3 el3 hz H4 e4 g4
          have ez := move_eq el3 hz
          subst ez
          have o3 := o2.same s3
          have o4 := o3.set hF (s3 _ _ g2) e4 ((F.sl' p acc _).pr' l _) rfl (o3.sta.pr' (o3.got (o2.fresh n3) g3)) (PartOf.pr' (o2.fresh n3))
          have hT := takeP_ints (L := L) (W := W) e
          rw [hst] at hT
          exact ⟨_, _, _, _, rfl, o4.to hT⟩
    rintro σ' H1 ⟨v3, v4, v5, u1, rfl, o⟩
    obtain ⟨dx1, fs1, hg1, F1⟩ := o.obj
    have few1 := F1.few
    have l31 := F1.place
    rw [hm3] at l31
    have t1 := o.kp.tup ht
    have hv1 : BlkAt K H1 (.ref t) (some d) := BlkAt.keeps o.kp ⟨t, b, rfl, ht, hb⟩
    obtain ⟨ns, hn, hnl⟩ : ∃ ns, ((d.kind = 1 ∧ ∃ used a, d.body = .com ns used a) ∨ (d.kind ≠ 1 ∧ d.body = .ints ns)) ∧ ns.length = cntOf d := by
      rcases hd with ⟨hk, ids, used, a, e, _⟩ | ⟨hk, ids, e, _⟩
      · exact ⟨ids, .inl ⟨hk, used, a, e⟩, by unfold cntOf; rw [e]⟩
      · exact ⟨ids, .inr ⟨hk, e⟩, by unfold cntOf; rw [e]⟩
    walk_at "go"
    rename_i x hx H2 e2 g2
    have hp2 : W.place + 1 + ((ns.map V.int).length : Int) = W.place + 1 + cntOf d := by rw [List.length_map, hnl]
    rw [hp2] at e2 g2
    have o2 := o.set hF hg1 e2 (F1.place' _) rfl (o.sta.place' _)
    have t2 := o2.kp.tup ht
    walk_at "go"
    rename_i H3 e3 g3
    have o3 := o2.set hF g2 e3 ((F1.place' _).last' _) rfl (o2.sta.last' _)
    exact q _ _ _ (o3.done hQ hF hm1 hm2)

/-! ### reading enumerate(list, start=k) -/
theorem walk_enumC {K : PySem.W.Frag} {a : Addr} {c : Int} {xs : List V} : Walk (Itec K a c) xs.length (fun H => SqL K H a xs) (YPair (fun i => some (.int (c + (i : Nat)))) (fun i => xs[i]?)) := by
  refine ⟨fun i _ hi q => ⟨xs, xs[i], q, by simp [hi]⟩, fun _ q => ⟨xs, q, Nat.le_refl _⟩, fun i H v H' _ q y => ?_⟩
  obtain ⟨T, x, h1, h2, h3, h4⟩ := y
  exact ⟨T, .int (c + (i : Nat)), x, h1, h2, h3, rfl, h4 xs q⟩
def kIeC2 (K : PySem.W.Frag) (R : It → Hp → Prop) (vs : List V) : List V → Hp → Prop := fun zs H2 => ∃ a xs k, vs = [V.ref a] ∧ zs = [V.int k] ∧ 0 ≤ k ∧ k ≤ 1000000 ∧ SqL K H2 a xs ∧ R (Itec K a k) H2
def kIeC (K : PySem.W.Frag) (tk : TA) (σ : L2.St) (R : It → Hp → Prop) : List V → Hp → Prop := fun vs H1 => tk σ H1 (kIeC2 K R vs)
theorem r_ienumC {K : PySem.W.Frag} {ta tk : TA} {σ : L2.St} {H : Hp} {R : It → Hp → Prop} (h : ta σ H (kIeC K tk σ R)) : iEnumC K ta tk σ H R := h
theorem r_kIeC {K : PySem.W.Frag} {tk : TA} {σ : L2.St} {vs : List V} {H : Hp} {R : It → Hp → Prop} (h : tk σ H (kIeC2 K R vs)) : kIeC K tk σ R vs H := h
theorem r_kIeC2 {K : PySem.W.Frag} {a : Addr} {k : Int} {xs : List V} {H : Hp} {R : It → Hp → Prop} (h1 : SqL K H a xs) (k0 : 0 ≤ k) (k1 : k ≤ 1000000) (h : R (Itec K a k) H) : kIeC2 K R [.ref a] [.int k] H := ⟨a, xs, k, rfl, rfl, k0, k1, h1, h⟩
theorem r_forEC {K : PySem.W.Frag} {a : Addr} {c : Int} {xs : List V} {σ : L2.St} {H : Hp} {D : Ends} {g : TG} {tb : TS} (Pv : Nat → L2.St → Hp → Prop) (h0 : Pv 0 σ H) (hl : ∀ i σ H, i ≤ xs.length → Pv i σ H → SqL K H a xs)
    (hs : ∀ (i : Nat) (x : V) (σ : L2.St) (H H' : Hp) (T : Addr), xs[i]? = some x → Pv i σ H → H T = none → upd H T (.tup [.int (c + (i : Nat)), x]) = H' → g (.ref T) σ H' fun σ2 H2 => tb { D with nx := Pv (i + 1), ct := Pv (i + 1), bk := D.nx } σ2 H2)
    (hd : ∀ σ H, Pv xs.length σ H → D.nx σ H) : kFor g tb D σ (Itec K a c) H :=
  for_it walk_enumC Pv h0 hl (fun i x σ H H' hlt p y => by
    obtain ⟨T, z, w, e1, e2, e3, e4, e5⟩ := y
    cases e4
    rw [e1]
    exact hs i w σ H H' T e5 p e2 e3.symm) hd
local macro_rules | `(tactic| walk_at "rd1") => `(tactic| with_reducible (first | refine' Sg.r_ienumC ?_ | refine' Sg.r_kIeC ?_ | (refine' Sg.r_kIeC2 ?h ?h0 ?h1 ?_; (case h => (with_unfolding_all walk_at "hp")); (case h0 => omega); (case h1 => omega))))

/-! ### o.f += an int -/
theorem r_fldaug {K : PySem.W.Frag} {D : Ends} {σ : L2.St} {H : Hp} {n : Nat} {a C dx : Addr} {fs : List (Str × V)} {f : Str} {i k : Int} (hv : σ[n]? = some (some (.ref a))) (h : H a = some (.ins C dx fs)) (hc : Cls K C) (hn : NoAttr K C f) (hl : fs.lookup f = some (.int i)) (few : fs.length < 1000)
    (q : D.nx σ (upd H a (.ins C dx (putF f (.int (i + k)) fs)))) : sFldAug K (tVar n) (tC (.int k)) rAdd f D σ H := ⟨_, hv, a, C, dx, fs, _, rfl, h, hc, hn, hl, _, _, rfl, rfl, dx, fs, h, few, q⟩
local macro_rules | `(tactic| walk_at "ca1") => `(tactic| with_reducible (refine' Sg.r_fldaug (by with_unfolding_all rfl) ?h ?hc ?hn ?hl ?few ?_; (case h => (with_unfolding_all walk_at "hp")); (case hc => assumption); (case hn => assumption); (case hl => (with_unfolding_all walk_at "lk")); (case few => (with_unfolding_all walk_at "few")); (with_unfolding_all walk_at "up")))

/-! ### o.f += an int that is reckoned -/
theorem r_fldaugX {K : PySem.W.Frag} {D : Ends} {σ : L2.St} {H : Hp} {n : Nat} {a C dx : Addr} {fs : List (Str × V)} {f : Str} {i j : Int} {te : TE} (hv : σ[n]? = some (some (.ref a))) (h : H a = some (.ins C dx fs)) (hc : Cls K C) (hn : NoAttr K C f) (hl : fs.lookup f = some (.int i)) (few : fs.length < 1000)
    (ht : ∀ R : V → Hp → Prop, R (.int j) H → te σ H R) (q : D.nx σ (upd H a (.ins C dx (putF f (.int (i + j)) fs)))) : sFldAug K (tVar n) te rAdd f D σ H := ⟨_, hv, a, C, dx, fs, _, rfl, h, hc, hn, hl, ht _ ⟨_, _, rfl, rfl, dx, fs, h, few, q⟩⟩
/-! ### the log's device is written -/
structure MS (N k : Nat) (m m' : DevM) : Prop where
  lay : m'.lay = m.lay
  gd : GdM N m → GdM N m'
  wt : m'.wait.length ≤ m.wait.length + k
  on : m.off = false → m.left = none → m'.off = false ∧ m'.left = none
theorem MS.refl {N : Nat} {m : DevM} : MS N 0 m m := ⟨rfl, id, Nat.le_refl _, fun a b => ⟨a, b⟩⟩
theorem MS.trans {N j k : Nat} {m m1 m2 : DevM} (a : MS N j m m1) (b : MS N k m1 m2) : MS N (j + k) m m2 :=
  ⟨b.lay.trans a.lay, fun h => b.gd (a.gd h), Nat.le_trans b.wt (by have := a.wt; omega), fun h1 h2 => b.on (a.on h1 h2).1 (a.on h1 h2).2⟩
theorem MS.mono {N j k : Nat} {m m' : DevM} (a : MS N j m m') (h : j ≤ k) : MS N k m m' := ⟨a.lay, a.gd, Nat.le_trans a.wt (by omega), a.on⟩
theorem take_on {m : DevM} (h1 : m.off = false) (h2 : m.left = none) : takeF m = m := by
  unfold takeF
  rw [h2]
theorem MS.write {N : Nat} {m : DevM} {a : Int} {v : V} : MS N 1 m (writeF m a v) := by
  obtain ⟨e1, e2, e3, e4⟩ := takeF_lists m
  refine ⟨e4, fun h => ?_, ?_, fun h1 h2 => ?_⟩
  · have := h.step 2 a 0 v (Int.le_refl 0)
    unfold stepF at this
    rw [if_neg (by decide), if_neg (by decide)] at this
    exact this
  · unfold writeF
    dsimp only
    split
    · omega
    · rw [List.length_append]
      exact Nat.le_refl _
  · unfold writeF
    rw [take_on h1 h2]
    exact ⟨h1, h2⟩
theorem MS.barrier {N : Nat} {m : DevM} : MS N 0 m (barrierF m) := by
  obtain ⟨e1, e2, e3, e4⟩ := takeF_lists m
  refine ⟨?_, fun h => ?_, ?_, fun h1 h2 => ?_⟩
  · unfold barrierF
    split <;> exact e4
  · have := h.step 1 0 0 .non (Int.le_refl 0)
    unfold stepF at this
    rw [if_neg (by decide), if_pos (by decide)] at this
    exact this
  · unfold barrierF
    split
    · rw [e3]; exact Nat.le_refl _
    · exact Nat.zero_le _
  · unfold barrierF
    rw [take_on h1 h2, if_neg (by rw [h1]; decide)]
    exact ⟨h1, h2⟩
theorem bar_shown {m : DevM} : (barrierF m).shown = m.shown := by
  obtain ⟨e1, e2, e3, e4⟩ := takeF_lists m
  unfold barrierF
  split <;> exact e2
theorem bar_wait {m : DevM} (h1 : m.off = false) (h2 : m.left = none) : (barrierF m).wait = [] := by
  unfold barrierF
  rw [take_on h1 h2, if_neg (by rw [h1]; decide)]
def putD (D : List (Option BD)) (a : Int) (o : Option BD) : List (Option BD) := if 0 ≤ a ∧ a < D.length then D.set a.toNat o else D
theorem putD_len {D : List (Option BD)} {a : Int} {o : Option BD} : (putD D a o).length = D.length := by
  unfold putD
  split
  · rw [List.length_set]
  · rfl
theorem blks_put {K : PySem.W.Frag} {H : Hp} {m : DevM} {D : List (Option BD)} {a : Int} {v : V} {o : Option BD} (h : Blks K H m.shown D) (hv : BlkAt K H v o) : Blks K H (writeF m a v).shown (putD D a o) := by
  show Blks K H (putB m.shown a v) (putD D a o)
  unfold putB putD
  rw [Paired.length h]
  split
  · exact paired_set hv _ h
  · exact h
theorem LogQ.dev' {K : PySem.W.Frag} {C CD CC CL : Addr} {L : Lay} {g : Addr} {G H H' : Hp} {u : LU} {W : LgM} {su' sh' un' : Addr} {m' : DevM} (hQ : LogQ K C CD CC CL L G H g u W) (hF : Frm (mutL g u) G H) (e : ExL [u.d, u.su, u.sh, u.un] H H') (k : Keeps H H') (hD : DevQ CD H' u.d su' sh' un' m')
    (n : ∀ x ∈ [su', sh', un'], x ∈ [u.d, u.su, u.sh, u.un] ∨ H x = none) (el : m'.lay = W.m.lay) : LogS K C CD CC CL L g G H u G H' { u with su := su', sh := sh', un := un' } { W with m := m' } := by
  have nd := hQ.nd
  have live := hQ.live
  obtain ⟨dx, fs, hg, F⟩ := hQ.obj
  obtain ⟨_, _, _, w1, _, w2, w3, w4, w5, w6, w7, _⟩ := id hD
  simp only [mutL, List.nodup_cons, List.mem_cons, List.not_mem_nil, or_false, not_or, List.nodup_nil, and_true, not_false_eq_true] at nd
  obtain ⟨⟨a1, a2, a3, a4, a5⟩, ⟨b1, b2, b3, b4⟩, _⟩ := nd
  have hgD : g ∉ [u.d, u.su, u.sh, u.un] := by simp [a2, a3, a4, a5]
  have hcD : u.ca ∉ [u.d, u.su, u.sh, u.un] := by simp [b1, b2, b3, b4]
  have new : ∀ {x y : Addr}, x ∉ [u.d, u.su, u.sh, u.un] → H x ≠ none → y ∈ [su', sh', un'] → x ≠ y := fun hx hl hy z => (n _ hy).elim (fun h => hx (by rw [z]; exact h)) fun h => hl (by rw [z]; exact h)
  have lg := live g (by simp [mutL])
  have lc := live u.ca (by simp [mutL])
  have e1 : ∀ {x : Addr} {xs : List V}, H' x = some (.lst xs) → u.d ≠ x := fun h z => by rw [← z, w1] at h; cases h
  have hg' := e _ _ hgD hg
  obtain ⟨dxc, fsc, hc, Fc⟩ := hQ.cnt
  have hc' := e _ _ hcD hc
  refine ⟨Stp.part hF (D := [u.d, u.su, u.sh, u.un]) (fun x hx => by unfold mutL; exact List.mem_cons_of_mem _ (List.mem_cons_of_mem _ hx)) e k (fun x hx => ?_) (fun x hx => ?_), ⟨⟨dx, fs, hg', ?_⟩, ⟨dxc, fsc, hc', Fc⟩, hD, ⟨?_, hQ.sta.pr, hQ.sta.sl, hQ.sta.sls, hQ.sta.qa⟩, ?_⟩, fun _ h => .inl h⟩
  · simp only [mutL, List.mem_cons, List.not_mem_nil, or_false] at hx
    have up : ∀ {y : Addr}, y ∈ [u.d, u.su, u.sh, u.un] ∨ H y = none → y ∈ mutL g u ∨ H y = none := fun h => h.imp_left fun h => by unfold mutL; exact List.mem_cons_of_mem _ (List.mem_cons_of_mem _ h)
    rcases hx with rfl | rfl | rfl | rfl | rfl | rfl
    · exact .inl (by simp [mutL])
    · exact .inl (by simp [mutL])
    · exact .inl (by simp [mutL])
    · exact up (n _ (by simp))
    · exact up (n _ (by simp))
    · exact up (n _ (by simp))
  · simp only [mutL, List.mem_cons, List.not_mem_nil, or_false] at hx
    rcases hx with rfl | rfl | rfl | rfl | rfl | rfl
    · rw [hg']; exact fun z => nomatch z
    · rw [hc']; exact fun z => nomatch z
    · rw [w1]; exact fun z => nomatch z
    · rw [w5]; exact fun z => nomatch z
    · rw [w6]; exact fun z => nomatch z
    · rw [w7]; exact fun z => nomatch z
  · obtain ⟨f1, f2, f3, f4, f5, f6, f7, f8, f9, f10, f11, f12⟩ := F
    exact ⟨f1, f2, by rw [f3, el], f4, f5, f6, f7, f8, f9, f10, f11, f12⟩
  · rw [el]; exact hQ.sta.lay
  · simp only [mutL, List.nodup_cons, List.mem_cons, List.not_mem_nil, or_false, not_or, List.nodup_nil, and_true, not_false_eq_true]
    exact ⟨⟨a1, a2, new hgD lg (by simp), new hgD lg (by simp), new hgD lg (by simp)⟩, ⟨b1, new hcD lc (by simp), new hcD lc (by simp), new hcD lc (by simp)⟩, ⟨e1 w5, e1 w6, e1 w7⟩, ⟨w2, w3⟩, w4⟩
/-- the counts are changed -/
theorem LogQ.cnt' {K : PySem.W.Frag} {C CD CC CL : Addr} {L : Lay} {g : Addr} {G H H' : Hp} {u : LU} {W : LgM} {dx : Addr} {fs fs' : List (Str × V)} {c' : Cn} (hQ : LogQ K C CD CC CL L G H g u W) (hF : Frm (mutL g u) G H) (h : H u.ca = some (.ins CC dx fs)) (e : L2.upd H u.ca (.ins CC dx fs') = H') (F' : CntFs fs' c') :
    LogS K C CD CC CL L g G H u G H' u { W with cs := c' } := by
  have nd := hQ.nd
  obtain ⟨dxg, fsg, hg, F⟩ := hQ.obj
  simp only [mutL, List.nodup_cons, List.mem_cons, List.not_mem_nil, or_false, not_or, List.nodup_nil, and_true, not_false_eq_true] at nd
  obtain ⟨⟨a1, a2, a3, a4, a5⟩, ⟨b1, b2, b3, b4⟩, _⟩ := nd
  have k := Keeps.upd h insNF e
  refine ⟨Stp.put hF (by simp [mutL]) h insNF e, ⟨⟨dxg, fsg, by rw [← e, upd_ne a1]; exact hg, ?_⟩, ⟨dx, fs', Sg.at_new e, F'⟩, hQ.dev.frame (fun x hx o q => ?_) k, ⟨hQ.sta.lay, hQ.sta.pr, hQ.sta.sl, hQ.sta.sls, hQ.sta.qa⟩, hQ.nd⟩, fun _ h => .inl h⟩
  · obtain ⟨f1, f2, f3, f4, f5, f6, f7, f8, f9, f10, f11, f12⟩ := F
    exact ⟨f1, f2, f3, f4, f5, f6, f7, f8, f9, f10, f11, f12⟩
  · rw [← e, upd_ne]
    · exact q
    · simp only [List.mem_cons, List.not_mem_nil, or_false] at hx
      rcases hx with rfl | rfl | rfl | rfl
      · exact Ne.symm b1
      · exact Ne.symm b2
      · exact Ne.symm b3
      · exact Ne.symm b4
/-- the heap grew by what stays -/
theorem LogQ.grew {K : PySem.W.Frag} {C CD CC CL : Addr} {L : Lay} {g : Addr} {G H H' : Hp} {u : LU} {W : LgM} (hQ : LogQ K C CD CC CL L G H g u W) (hF : Frm (mutL g u) G H) (s : Same H H') : LogS K C CD CC CL L g G H u (grow G H H') H' u W := by
  obtain ⟨dx, fs, hg, F⟩ := hQ.obj
  exact ⟨Stp.same hF s, ⟨⟨dx, fs, s _ _ hg, F⟩, hQ.cnt.of fun o h => s _ _ h, hQ.dev.frame (fun x _ o h => s _ _ h) (Keeps.of s), hQ.sta.mono (grow_same hF.gh), hQ.nd⟩, fun _ h => .inl h⟩

theorem hu65 {k : Nat} {A : Around} (r : Room k A) : A.units + 65 < cLine := by have := r.un; omega
/-! ### blocks and payloads as data -/
def bodyD : Body → PyData
  | .ints ns => .tuple (ns.map PyData.int)
  | .com ids used a => .tuple [.tuple (ids.map PyData.int), .tuple (used.map PyData.int), .int a]
theorem bodyD_dp {K : PySem.W.Frag} {H : Hp} {b : Addr} : ∀ {y : Body}, BodyAt K H b y → Dp K H (.ref b) (bodyD y)
  | .ints _, h => .tup h (DpAll.ints _)
  | .com _ _ _, ⟨x, u, h1, h2, h3⟩ => .tup h1 (.cons (.tup h2 (DpAll.ints _)) (.cons (.tup h3 (DpAll.ints _)) (.cons (.int _) .nil)))
theorem bodyD_fl : ∀ y : Body, Fl 2 (bodyD y)
  | .ints ns => (Fl.ints ns).mono (by decide)
  | .com ids used a => Fl.tup (Fl.cons (Fl.ints ids) (Fl.cons (Fl.ints used) (Fl.cons (Fl.int _ _) Fl.nil)))
def plD : Option (Int × Body) → PyData
  | none => .none
  | some p => .tuple [.int p.1, bodyD p.2]
theorem plD_dp {K : PySem.W.Frag} {H : Hp} {v : V} : ∀ {o : Option (Int × Body)}, PlAt K H v o → Dp K H v (plD o)
  | none, h => by cases h; exact .non
  | some p, ⟨t, b, e, h1, h2⟩ => by subst e; exact .tup h1 (.cons (.int _) (.cons (bodyD_dp h2) .nil))
theorem plD_fl : ∀ o : Option (Int × Body), Fl 3 (plD o)
  | none => Fl.non 3
  | some p => Fl.tup (Fl.cons (Fl.int _ _) (Fl.cons (bodyD_fl p.2) Fl.nil))
theorem plsD_dp {K : PySem.W.Frag} {H : Hp} : ∀ {vs : List V} {os : List (Option (Int × Body))}, Paired (PlAt K H) vs os → DpAll K H vs (os.map plD)
  | _, _, .nil => .nil
  | _, _, .cons h t => .cons (plD_dp h) (plsD_dp t)
theorem plsD_fl (os : List (Option (Int × Body))) : Fl 4 (.list (os.map plD)) := Fl.lst fun d hd => by
  obtain ⟨o, _, rfl⟩ := List.mem_map.mp hd
  exact plD_fl o
def bdD : Option BD → PyData
  | none => .none
  | some d => .tuple [.int d.kind, .int d.seq, .int d.rank, bodyD d.body]
theorem bdD_dp {K : PySem.W.Frag} {H : Hp} {v : V} : ∀ {o : Option BD}, BlkAt K H v o → Dp K H v (bdD o)
  | none, h => by cases h; exact .non
  | some d, ⟨t, b, e, h1, h2⟩ => by subst e; exact .tup h1 (.cons (.int _) (.cons (.int _) (.cons (.int _) (.cons (bodyD_dp h2) .nil))))
theorem bdD_fl : ∀ o : Option BD, Fl 3 (bdD o)
  | none => Fl.non 3
  | some p => Fl.tup (Fl.cons (Fl.int _ _) (Fl.cons (Fl.int _ _) (Fl.cons (Fl.int _ _) (Fl.cons (bodyD_fl p.body) Fl.nil))))
theorem none_eqv (o : Option (Int × Body)) : PyData.eqv (plD o) .none = o.isNone := by
  cases o with
  | none => exact (Fl.non 0).self
  | some p => simp [plD, PyData.eqv]
theorem any_none : ∀ os : List (Option (Int × Body)), ((os.map plD).any fun z => PyData.eqv z .none) = os.any Option.isNone
  | [] => rfl
  | o :: os => by rw [List.map_cons, List.any_cons, any_none os, none_eqv, List.any_cons]
theorem anyN_of {α : Type} : ∀ {os : List (Option α)}, os.any Option.isNone = true → none ∈ os
  | [], h => by cases h
  | none :: os, h => List.mem_cons_self ..
  | some x :: os, h => List.mem_cons_of_mem _ (anyN_of h)
theorem anyN_not {α : Type} : ∀ {os : List (Option α)}, os.any Option.isNone = false → none ∉ os
  | [], h, z => by cases z
  | none :: os, h, z => by cases h
  | some x :: os, h, z => by
    cases z with
    | tail _ z => exact anyN_not (os := os) h z
/-- None in a list of payloads -/
theorem r_noneInP {K : PySem.W.Frag} {H : Hp} {a : Addr} {vs : List V} {os : List (Option (Int × Body))} {Q : V → Hp → Prop} (h : H a = some (.lst vs)) (hp : Paired (PlAt K H) vs os) (q : Q (.bl (os.any Option.isNone)) H) : rInD K .non (.ref a) H Q :=
  ⟨.none, os.map plD, .non, .lst (.of h) (plsD_dp hp), (Fl.non 0).shaped, (plsD_fl os).shaped, by rw [any_none]; exact q⟩

/-- [e for x in list], its items anything; the new list is known -/
theorem r_lcLA {K : PySem.W.Frag} {a : Addr} {xs : List V} {slot : Nat} {vs : List Nat} {te : TE} {σ : L2.St} {H : Hp} {Q : V → Hp → Prop} (P : Nat → List V → Hp → Prop) (hx : SqL K H a xs) (hn : xs.length ≤ 100000) (hv : vs = [slot]) (h0 : P 0 [] H)
    (hs : ∀ (i : Nat) (x : V) (acc : List V) (H0 H' : Hp), xs[i]? = some x → L2.Same H H0 → P i acc H0 → L2.Same H0 H' → ∀ R : V → Hp → Prop,
      (∀ (v : V) (H'' : Hp), L2.Same H' H'' → (∀ D, H0 D = none → H' D = some (.lst acc) → P (i + 1) (acc ++ [v]) (hid D H'')) → R v H'') → te ((wipe σ vs).set slot (some x)) H' R)
    (q : ∀ (H' : Hp) (l : Addr) (acc : List V), L2.Same H H' → H l = none → H' l = some (.lst acc) → acc.length = xs.length → P xs.length acc (hid l H') → Q (.ref l) H') :
    kLc (gName slot) tYes te vs σ Q (Itl K a) H := by
  intro L hL
  have hw : ∀ (τ : L2.St) (x : V), wipe (τ.set slot (some x)) [slot] = wipe τ [slot] := fun τ x => by simp [wipe, List.set_set]
  have hw2 : wipe (wipe σ vs) vs = wipe σ vs := by subst hv; simp [wipe, List.set_set]
  refine lc_it (walk_list (K := K) (a := a) (xs := xs)) (fun i H' => ∃ acc : List V, acc.length = i ∧ H' L = some (.lst acc) ∧ L2.Same H H' ∧ P i acc (hid L H')) ⟨[], rfl, upd_same, fun b o e => by rw [upd_ne (ne_of_none e hL)]; exact e, by rw [hid_upd, hid_none hL]; exact h0⟩ (fun i H' _ ⟨_, _, _, s, _⟩ => s.seq hx) ?_ ?_
  · rintro i x H' H'' hi ⟨acc, el, eL, s, hp⟩ ⟨e, hxi⟩
    subst e
    refine ⟨?_, ?_⟩
    · subst hv
      rw [hw]
      exact hw2
    · show te ((wipe σ vs).set slot (some x)) _ _
      refine hs i x acc (hid L H'') H'' hxi (same_hid s hL) hp hid_same _ fun v H3 s2 hP => ⟨acc, s2 _ _ eL, ?_, acc ++ [v], ?_, upd_same, ?_, ?_⟩
      · rw [el, sz]
        omega
      · rw [List.length_append, el]; rfl
      · intro b o e
        rw [upd_ne (ne_of_none e hL)]
        exact s2 _ _ (s _ _ e)
      · rw [hid_upd]
        exact hP L hid_at eL
  · rintro H' ⟨acc, el, eL, s, hp⟩
    exact q H' L acc s hL eL el hp

def plG (pls : List (Int × Body)) (i : Nat) : Int × Body := pls.getD i (0, .ints [])
def wrN (D : List (Option BD)) (st seq : Int) (pls : List (Int × Body)) : Nat → List (Option BD)
  | 0 => D
  | i + 1 => putD (wrN D st seq pls i) (st + (1 + (i : Nat))) (some ⟨(plG pls i).1, seq, 1 + (i : Nat), (plG pls i).2⟩)
def startOf (L : Lay) (W : LgM) : Int := 2 * L.reg + W.head * L.blk + W.place
def writeD (L : Lay) (W : LgM) (d : BD) (pls : List (Int × Body)) (D : List (Option BD)) : List (Option BD) := wrN (putD D (startOf L W) (some d)) (startOf L W) d.seq pls pls.length
theorem takeW_m {L : Lay} {W : LgM} {d : BD} {m : DevM} : takeW L { W with m := m } d = { takeW L W d with m := m } := by
  unfold takeW takeP
  cases d.body <;> rfl
theorem pl_at {K : PySem.W.Frag} {H : Hp} {pvs : List V} {pls : List (Int × Body)} {i : Nat} {x : V} (h : Paired (PlAt K H) pvs (pls.map some)) (hx : pvs[i]? = some x) : PlAt K H x (some (plG pls i)) := by
  obtain ⟨o, ho, hp⟩ := paired_at h hx
  rw [List.getElem?_map] at ho
  obtain ⟨p, hp1, rfl⟩ := Option.map_eq_some_iff.mp ho
  have : plG pls i = p := by unfold plG; rw [List.getD_eq_getElem?_getD, hp1]; rfl
  rw [this]
  exact hp
theorem pls_keeps {K : PySem.W.Frag} {H H' : Hp} (s : Keeps H H') : ∀ {pvs : List V} {os : List (Option (Int × Body))}, Paired (PlAt K H) pvs os → Paired (PlAt K H') pvs os
  | _, _, .nil => .nil
  | _, _, .cons h t => .cons (h.keeps s) (pls_keeps s t)
def sp_write_batch (K : PySem.W.Frag) (C CD CC CL : Addr) : Sp := fun args_ H Q _ => ∃ (G : Hp) (g : Addr) (u : LU) (W : LgM) (L : Lay) (v : V) (d : BD) (pa : Addr) (pvs : List V) (pls : List (Int × Body)) (D : List (Option BD)), args_ = [.ref g, v, .ref pa] ∧ LogQ K C CD CC CL L G H g u W ∧ Frm (mutL g u) G H ∧ LayC L ∧ WOk L W ∧ BlkAt K H v (some d) ∧ ((d.kind = 1 ∧ ∃ ids used a, d.body = .com ids used a ∧ ids.length ≤ 4000 ∧ used.length ≤ 4000 ∧ 0 ≤ a ∧ a ≤ 6) ∨ (d.kind ≠ 1 ∧ ∃ ids, d.body = .ints ids ∧ ids.length ≤ 4000)) ∧ SqL K G pa pvs ∧ Paired (PlAt K H) pvs (pls.map some) ∧ Blks K H W.m.shown D ∧ W.m.wait.length + pls.length ≤ 90000 ∧ ∀ G' H' u' m', LogS K C CD CC CL L g G H u G' H' u' { takeW L W d with m := m' } → MS L.dev.toNat (1 + pls.length) W.m m' → Blks K H' m'.shown (writeD L W d pls D) → Q .non H'
theorem i_write_batch {K : PySem.W.Frag} {C CD CC CL : Addr} {args_ : List V} {H : Hp} {Q : V → Hp → Prop} {E : XK} {G : Hp} {g : Addr} {u : LU} {W : LgM} {L : Lay} {v : V} {d : BD} {pa : Addr} {pvs : List V} {pls : List (Int × Body)} {D : List (Option BD)} (ev : args_ = [.ref g, v, .ref pa]) (hQ : LogQ K C CD CC CL L G H g u W) (hF : Frm (mutL g u) G H) (hC : LayC L) (hW : WOk L W) (hv : BlkAt K H v (some d)) (hd : ((d.kind = 1 ∧ ∃ ids used a, d.body = .com ids used a ∧ ids.length ≤ 4000 ∧ used.length ≤ 4000 ∧ 0 ≤ a ∧ a ≤ 6) ∨ (d.kind ≠ 1 ∧ ∃ ids, d.body = .ints ids ∧ ids.length ≤ 4000))) (hpa : SqL K G pa pvs) (hpl : Paired (PlAt K H) pvs (pls.map some)) (hB : Blks K H W.m.shown D) (hw : W.m.wait.length + pls.length ≤ 90000) (q : ∀ G' H' u' m', LogS K C CD CC CL L g G H u G' H' u' { takeW L W d with m := m' } → MS L.dev.toNat (1 + pls.length) W.m m' → Blks K H' m'.shown (writeD L W d pls D) → Q .non H') : sp_write_batch K C CD CC CL args_ H Q E := ⟨G, g, u, W, L, v, d, pa, pvs, pls, D, ev, hQ, hF, hC, hW, hv, hd, hpa, hpl, hB, hw, q⟩
local macro_rules | `(tactic| walk_at "ca1") => `(tactic| with_reducible (refine' Sg.i_write_batch ?ev ?hQ ?hF ?hC ?hW ?hv ?hd ?hpa ?hpl ?hB ?hw ?_; (case ev => (with_unfolding_all rfl)); (case hQ => (with_unfolding_all walk_at "pr")); (case hF => (with_unfolding_all walk_at "pr")); (case hC => (with_unfolding_all walk_at "pr")); (case hW => (with_unfolding_all walk_at "pr")); (case hv => (with_unfolding_all walk_at "pr")); (case hd => (with_unfolding_all walk_at "pr")); (case hpa => (with_unfolding_all walk_at "pr")); (case hpl => (with_unfolding_all walk_at "pr")); (case hB => (with_unfolding_all walk_at "pr")); (case hw => (with_unfolding_all walk_at "pr")); intros))

theorem ok_write_batch (T : Txt K mg) : FnOk P w K mg base CX0 4 T.a_write_batch T.fd_write_batch ["log", "summary", "payloads"] (sp_write_batch K T.A_Log T.A_Device T.A_Counts T.A_Layout) := by
  refine T.F_write_batch.ok sc_write_batch (fun vs H Q E h => ?_) (fun cdv A outer s H vs Q E hr h => ?_)
  · obtain ⟨G, g, u, W, L, v, d, pa, pvs, pls, D, rfl, _⟩ := h
    rfl
  · refine ⟨_, (pss_cons (ps_set (i := 3) sc_write_batch.nd rfl (Or.inl rfl) (pe_call (ok_address_at T) (hr.mono (by decide)) rfl T.m_address_at T.F_address_at.kp T.b_address_at .nil pass0 (pa_cons (pe_fld (pv 0) rfl) (pa_cons (pe_fld (pv 0) rfl) (pa_cons (pe_fld (pv 0) rfl) pa_nil)))))
       (pss_cons (ps_expr (pe_meth (pe_fld (pv 0) rfl) T.cl_Device T.me_Device_write (ok_Device_write T) (hr.mono (by decide)) T.b_Device_write .nil pass0 (pa_cons (pv 3) (pa_cons (pv 1) pa_nil))))
       (pss_cons (ps_for PassesOwn.never rfl (pi_enumC (by rfl) T.n_enumerate (pa_cons (pv 2) pa_nil) (pk_cons pe_int pk_nil)) (pg_tup (by rfl) (pgs_cons (pg_name (i := 4) sc_write_batch.nd rfl (Or.inl rfl)) (pgs_cons (pg_name (i := 5) sc_write_batch.nd rfl (Or.inl rfl)) pgs_nil)))
       (pss_one (ps_expr (pe_meth (pe_fld (pv 0) rfl) T.cl_Device T.me_Device_write (ok_Device_write T) (hr.mono (by decide)) T.b_Device_write .nil pass0 (pa_cons (pe_op op_add (pv 3) (pv 4)) (pa_cons (pe_call (ok_stamped T) (hr.mono (by decide)) rfl T.m_stamped T.F_stamped.kp T.b_stamped .nil pass0 (pa_cons (pv 5) (pa_cons (pe_ix ix_tup (pv 1) pe_int (fun _ _ => rfl)) (pa_cons (pv 4) pa_nil)))) pa_nil))))))
       (pss_one (ps_expr (pe_call (ok_take_batch T) (hr.mono (by decide)) rfl T.m_take_batch T.F_take_batch.kp T.b_take_batch .nil pass0 (pa_cons (pv 0) (pa_cons (pv 1) pa_nil)))))))), ?_⟩
    try dsimp only [cxOf, Cx.nox, Cx.wish]
    obtain ⟨G, g, u, W, L, v, d, pa, pvs, pls, D, rfl, hQ, hF, hC, hW, hv, hd, hpa, hpl, hB, hw, q⟩ := h
    have cl_Device := T.cl_Device
    have cl_Log := T.cl_Log
    have na_Device_layout := T.na_Device_layout
    have na_Log_device := T.na_Log_device
    have na_Log_head := T.na_Log_head
    have na_Log_layout := T.na_Log_layout
    have na_Log_place := T.na_Log_place
    obtain ⟨dx, fs, hg, F⟩ := hQ.obj
    have l1 := F.lay
    have l2 := F.head
    have l3 := F.place
    have l4 := F.dev
    have few := F.few
    have hLy := hQ.sta.lay.mono hF.gh
    have h0 := hW.h0
    have h1 := hW.h1
    have s1 := hC.s1
    obtain ⟨dxd, fsd, usd, hd1, hd2, _⟩ := id hQ.dev
    have nWr := hd2.nW
    have hDv := hQ.dev
    have pln : pvs.length = pls.length := by rw [Paired.length hpl, List.length_map]
    have wl : W.m.wait.length ≤ 100000 := by omega
    walk_at "go"
    rename_i H1 su1 sh1 un1 e1 k1 D1 n1
    have S1 := hQ.dev' hF e1 k1 D1 n1 (MS.write (N := L.dev.toNat)).lay
    have ms1 : MS L.dev.toNat (1 + 0) W.m (writeF W.m (2 * L.reg + W.head * L.blk + W.place) v) := MS.write
    have B1 := blks_put (a := 2 * L.reg + W.head * L.blk + W.place) (hB.keeps k1) (hv.keeps k1)
    generalize writeF W.m (2 * L.reg + W.head * L.blk + W.place) v = m1 at S1 ms1 B1 D1
    generalize hst : 2 * L.reg + W.head * L.blk + W.place = start at *
    have est : startOf L W = start := hst
    have hv0 := hv
    obtain ⟨t, b, rfl, ht, hb⟩ := hv
    refine r_kIeC2 (S1.st.gh.seq hpa) (by omega) (by omega) ?_
    refine r_forEC (xs := pvs) (fun i σ' H' => ∃ (G' : Hp) (u' : LU) (m' : DevM) (v4 v5 : Option V), σ' = [some (.ref g), some (.ref t), some (.ref pa), some (.int start), v4, v5] ∧ LogS K T.A_Log T.A_Device T.A_Counts T.A_Layout L g G H u G' H' u' { W with m := m' } ∧ MS L.dev.toNat (1 + i) W.m m' ∧ Blks K H' m'.shown (wrN (putD D start (some d)) start d.seq pls i)) ⟨G, _, m1, _, _, rfl, S1, ms1, B1⟩ (fun i σ' H' _ ⟨G', _, _, _, _, _, S, _⟩ => (S.st.gg.trans S.st.gh).seq hpa) ?_ ?_
    · rintro i x σ' H2 H3 tp hx ⟨G2, u2, m2, v4, v5, rfl, S2, ms2, B2⟩ nT hT
      have s3 : Same H2 H3 := Sg.Same.of_new hT nT
      have gT : H3 tp = some (.tup [.int (1 + (i : Nat)), x]) := Sg.at_new hT
      have S3 := S2.trans (S2.q.grew S2.st.frm s3)
      have hi := (List.getElem?_eq_some_iff.mp hx).1
      have hpx : PlAt K H3 x (some (plG pls i)) := pl_at (pls_keeps S3.st.kp hpl) hx
      obtain ⟨dx3, fs3, hg3, F3⟩ := S3.q.obj
      have l43 := F3.dev
      have t3 := S3.st.kp.tup ht
      obtain ⟨dxd3, fsd3, usd3, hd13, hd23, _⟩ := id S3.q.dev
      have nWr3 := hd23.nW
      dsimp only at hd23
      have wl3 : m2.wait.length ≤ 100000 := by have := ms2.wt; omega
      walk_at "go"
      rename_i H4 bv s4 hbv
      have S4 := S3.trans (S3.q.grew S3.st.frm s4)
      refine i_write rfl S4.q.dev wl3 (fun H5 su5 sh5 un5 e5 k5 D5 n5 => ?_)
      have S5 := S4.q.dev' S4.st.frm e5 k5 D5 n5 (MS.write (N := L.dev.toNat)).lay
      have B4 : Blks K H4 m2.shown (wrN (putD D start (some d)) start d.seq pls i) := B2.keeps (Keeps.of (s3.trans s4))
      refine ⟨_, _, _, _, _, rfl, S4.trans S5, (ms2.trans MS.write).mono (by omega), ?_⟩
      exact blks_put (B4.keeps k5) (hbv.keeps k5)
    · rintro σ' H2 ⟨G2, u2, m2, v4, v5, rfl, S2, ms2, B2⟩
      have hv2 := hv0.keeps S2.st.kp
      have hQ2 := S2.q
      have hF2 := S2.st.frm
      have hW2 : WOk L { W with m := m2 } := ⟨hW.pl, hW.sl, hW.st, hW.h0, hW.h1⟩
      walk_at "go"
      rename_i G3 H3 u3 S3
      rw [takeW_m] at S3
      refine q _ _ _ m2 (S2.trans S3) (by rw [← pln]; exact ms2) ?_
      have B3 := B2.keeps S3.st.kp
      unfold writeD
      rw [est, ← pln]
      exact B3
def sp_sync_log (K : PySem.W.Frag) (C CD CC CL : Addr) : Sp := fun args_ H Q _ => ∃ (G : Hp) (g : Addr) (u : LU) (W : LgM) (L : Lay), args_ = [.ref g] ∧ LogQ K C CD CC CL L G H g u W ∧ Frm (mutL g u) G H ∧ ∀ G' H' u', LogS K C CD CC CL L g G H u G' H' u' { W with m := barrierF W.m, cs := { W.cs with b := W.cs.b + 1 } } → Q .non H'
theorem i_sync_log {K : PySem.W.Frag} {C CD CC CL : Addr} {args_ : List V} {H : Hp} {Q : V → Hp → Prop} {E : XK} {G : Hp} {g : Addr} {u : LU} {W : LgM} {L : Lay} (ev : args_ = [.ref g]) (hQ : LogQ K C CD CC CL L G H g u W) (hF : Frm (mutL g u) G H) (q : ∀ G' H' u', LogS K C CD CC CL L g G H u G' H' u' { W with m := barrierF W.m, cs := { W.cs with b := W.cs.b + 1 } } → Q .non H') : sp_sync_log K C CD CC CL args_ H Q E := ⟨G, g, u, W, L, ev, hQ, hF, q⟩
local macro_rules | `(tactic| walk_at "ca1") => `(tactic| with_reducible (refine' Sg.i_sync_log ?ev ?hQ ?hF ?_; (case ev => (with_unfolding_all rfl)); (case hQ => (with_unfolding_all walk_at "pr")); (case hF => (with_unfolding_all walk_at "pr")); intros))

theorem ok_sync_log (T : Txt K mg) : FnOk P w K mg base CX0 3 T.a_sync_log T.fd_sync_log ["log"] (sp_sync_log K T.A_Log T.A_Device T.A_Counts T.A_Layout) := by
  refine T.F_sync_log.ok sc_sync_log (fun vs H Q E h => ?_) (fun cdv A outer s H vs Q E hr h => ?_)
  · obtain ⟨G, g, u, W, L, rfl, _⟩ := h
    rfl
  · refine ⟨_, (pss_cons (ps_expr (pe_meth0 (pe_fld (pv 0) rfl) T.cl_Device T.me_Device_barrier (ok_Device_barrier T) (hr.mono (by decide)) T.b_Device_barrier .nil pass0))
       (pss_cons (ps_set (i := 1) sc_sync_log.nd rfl (Or.inl rfl) (pe_fld (pv 0) rfl))
       (pss_one (ps_fldaug (pv 1) pe_int in_add)))), ?_⟩
    try dsimp only [cxOf, Cx.nox, Cx.wish]
    obtain ⟨G, g, u, W, L, rfl, hQ, hF, q⟩ := h
    have cl_Counts := T.cl_Counts
    have cl_Device := T.cl_Device
    have cl_Log := T.cl_Log
    have na_Counts_barriers := T.na_Counts_barriers
    have na_Log_counts := T.na_Log_counts
    have na_Log_device := T.na_Log_device
    obtain ⟨dx, fs, hg, F⟩ := hQ.obj
    have l1 := F.dev
    have few := F.few
    obtain ⟨dxd, fsd, usd, hd1, hd2, _⟩ := id hQ.dev
    have nB := hd2.nB
    have hDv := hQ.dev
    walk_at "go"
    rename_i H1 su1 sh1 un1 e1 k1 D1 n1
    have S1 := hQ.dev' hF e1 k1 D1 n1 (MS.barrier (N := 0)).lay
    obtain ⟨dx1, fs1, hg1, F1⟩ := S1.q.obj
    have l11 := F1.ca
    dsimp only at l11
    obtain ⟨dxc, fsc, hc1, Fc⟩ := S1.q.cnt
    have l12 := Fc.b
    have fewc := Fc.few
    walk_at "go"
    rename_i H2 e2 g2
    exact q _ _ _ (S1.trans (S1.q.cnt' S1.st.frm hc1 e2 (Fc.b' _)))
/-- where a batch of n blocks goes -/
def enterW (W : LgM) (h : Int) (t : List Int) : LgM := { W with head := h, queue := t, place := 0 }
def roomW (L : Lay) (W : LgM) (n : Nat) : Option LgM := if L.blk < W.place + 1 + n then (match W.queue with
    | [] => none
    | h :: t => if L.pay < n then none else some (enterW W h t)) else some W
def sp_append_commit (K : PySem.W.Frag) (C CD CC CL : Addr) : Sp := fun args_ H Q _ => ∃ (G : Hp) (g : Addr) (u : LU) (W : LgM) (L : Lay) (ia pa ua : Addr) (a : Int) (ids used : List Int) (pvs : List V) (pls : List (Int × Body)) (D : List (Option BD)), args_ = [.ref g, .ref ia, .ref pa, .ref ua, .int a] ∧ LogQ K C CD CC CL L G H g u W ∧ Frm (mutL g u) G H ∧ LayC L ∧ WOk L W ∧ (∀ z ∈ W.queue, 0 ≤ z ∧ z < L.seg) ∧ SqL K G ia (ids.map V.int) ∧ SqL K G ua (used.map V.int) ∧ SqL K G pa pvs ∧ Paired (PlAt K H) pvs (pls.map some) ∧ Blks K H W.m.shown D ∧ ids.length ≤ 4000 ∧ used.length ≤ 4000 ∧ pls.length = ids.length ∧ 0 ≤ a ∧ a ≤ 6 ∧ W.m.wait.length ≤ 80000 ∧ ((roomW L W ids.length = none → Q (.bl false) H)) ∧ ∀ W1, roomW L W ids.length = some W1 → ∀ G' H' u' m', LogS K C CD CC CL L g G H u G' H' u' { takeW L W1 ⟨1, W.last + 1, 0, .com ids used a⟩ with m := m', cs := { W.cs with c := W.cs.c + 1, cb := W.cs.cb + (1 + pls.length) } } → MS L.dev.toNat (1 + pls.length) W.m m' → Blks K H' m'.shown (writeD L W1 ⟨1, W.last + 1, 0, .com ids used a⟩ pls D) → Q (.bl true) H'
theorem i_append_commit {K : PySem.W.Frag} {C CD CC CL : Addr} {args_ : List V} {H : Hp} {Q : V → Hp → Prop} {E : XK} {G : Hp} {g : Addr} {u : LU} {W : LgM} {L : Lay} {ia pa ua : Addr} {a : Int} {ids used : List Int} {pvs : List V} {pls : List (Int × Body)} {D : List (Option BD)} (ev : args_ = [.ref g, .ref ia, .ref pa, .ref ua, .int a]) (hQ : LogQ K C CD CC CL L G H g u W) (hF : Frm (mutL g u) G H) (hC : LayC L) (hW : WOk L W) (hq : (∀ z ∈ W.queue, 0 ≤ z ∧ z < L.seg)) (hia : SqL K G ia (ids.map V.int)) (hua : SqL K G ua (used.map V.int)) (hpa : SqL K G pa pvs) (hpl : Paired (PlAt K H) pvs (pls.map some)) (hB : Blks K H W.m.shown D) (li : ids.length ≤ 4000) (lu : used.length ≤ 4000) (lp : pls.length = ids.length) (a0 : 0 ≤ a) (a6 : a ≤ 6) (hw : W.m.wait.length ≤ 80000) (qf : (roomW L W ids.length = none → Q (.bl false) H)) (qt : ∀ W1, roomW L W ids.length = some W1 → ∀ G' H' u' m', LogS K C CD CC CL L g G H u G' H' u' { takeW L W1 ⟨1, W.last + 1, 0, .com ids used a⟩ with m := m', cs := { W.cs with c := W.cs.c + 1, cb := W.cs.cb + (1 + pls.length) } } → MS L.dev.toNat (1 + pls.length) W.m m' → Blks K H' m'.shown (writeD L W1 ⟨1, W.last + 1, 0, .com ids used a⟩ pls D) → Q (.bl true) H') : sp_append_commit K C CD CC CL args_ H Q E := ⟨G, g, u, W, L, ia, pa, ua, a, ids, used, pvs, pls, D, ev, hQ, hF, hC, hW, hq, hia, hua, hpa, hpl, hB, li, lu, lp, a0, a6, hw, qf, qt⟩
local macro_rules | `(tactic| walk_at "ca1") => `(tactic| with_reducible (refine' Sg.i_append_commit ?ev ?hQ ?hF ?hC ?hW ?hq ?hia ?hua ?hpa ?hpl ?hB ?li ?lu ?lp ?a0 ?a6 ?hw ?qf ?qt; (case ev => (with_unfolding_all rfl)); (case hQ => (with_unfolding_all walk_at "pr")); (case hF => (with_unfolding_all walk_at "pr")); (case hC => (with_unfolding_all walk_at "pr")); (case hW => (with_unfolding_all walk_at "pr")); (case hq => (with_unfolding_all walk_at "pr")); (case hia => (with_unfolding_all walk_at "pr")); (case hua => (with_unfolding_all walk_at "pr")); (case hpa => (with_unfolding_all walk_at "pr")); (case hpl => (with_unfolding_all walk_at "pr")); (case hB => (with_unfolding_all walk_at "pr")); (case li => (with_unfolding_all walk_at "pr")); (case lu => (with_unfolding_all walk_at "pr")); (case lp => (with_unfolding_all walk_at "pr")); (case a0 => (with_unfolding_all walk_at "pr")); (case a6 => (with_unfolding_all walk_at "pr")); (case hw => (with_unfolding_all walk_at "pr"))))

theorem ok_append_commit (T : Txt K mg) : FnOk P w K mg base CX0 5 T.a_append_commit T.fd_append_commit ["log", "ids", "payloads", "used", "action"] (sp_append_commit K T.A_Log T.A_Device T.A_Counts T.A_Layout) := by
  refine T.F_append_commit.ok sc_append_commit (fun vs H Q E h => ?_) (fun cdv A outer s H vs Q E hr h => ?_)
  · obtain ⟨G, g, u, W, L, ia, pa, ua, a, ids, used, pvs, pls, D, rfl, _⟩ := h
    rfl
  · refine ⟨_, (C8.pss_cut (ps_if (pt_cmpR op_gt (pe_op op_add (pe_op op_add (pe_fld (pv 0) rfl) pe_int) (pe_callB (c_len) (by rfl) T.n_len (by decide +kernel) (pa_cons (pv 1) pa_nil))) (pe_fld (pe_fld (pv 0) rfl) rfl) (nomark _))
       (C8.pss_cut (ps_if (PW.pt (pw_or (pt_not (pt_truth (pe_fld (pv 0) rfl) (by intro _; rfl))) (pw_or1 (pt_cmpR op_gt (pe_callB (c_len) (by rfl) T.n_len (by decide +kernel) (pa_cons (pv 1) pa_nil)) (pe_fld (pe_fld (pv 0) rfl) rfl) (nomark _)))))
       (pss_one (ps_ret pe_bl))
       pss_nil)
       (pss_one (ps_expr (pe_call (ok_enter_next_segment T) (hr.mono (by decide)) rfl T.m_enter_next_segment T.F_enter_next_segment.kp T.b_enter_next_segment .nil pass0 (pa_cons (pv 0) pa_nil)))))
       pss_nil)
       (pss_cons (ps_expr (pe_call (ok_write_batch T) (hr.mono (by decide)) rfl T.m_write_batch T.F_write_batch.kp T.b_write_batch .nil pass0 (pa_cons (pv 0) (pa_cons (pe_tup (pa_cons (pe_glob rfl T.c_COMMIT T.r_COMMIT) (pa_cons (pe_op op_add (pe_fld (pv 0) rfl) pe_int) (pa_cons pe_int (pa_cons (pe_tup (pa_cons (pe_callTy c_tuple (by rfl) T.n_tuple (by decide +kernel) (pa_cons (pv 1) pa_nil)) (pa_cons (pe_callTy c_tuple (by rfl) T.n_tuple (by decide +kernel) (pa_cons (pv 3) pa_nil)) (pa_cons (pv 4) pa_nil)))) pa_nil))))) (pa_cons (pv 2) pa_nil)))))
       (pss_cons (ps_set (i := 5) sc_append_commit.nd rfl (Or.inl rfl) (pe_fld (pv 0) rfl))
       (pss_cons (ps_fldaug (pv 5) pe_int in_add)
       (pss_cons (ps_fldaug (pv 5) (pe_op op_add pe_int (pe_callB (c_len) (by rfl) T.n_len (by decide +kernel) (pa_cons (pv 2) pa_nil))) in_add)
       (pss_one (ps_ret pe_bl))))))), ?_⟩
    try dsimp only [cxOf, Cx.nox, Cx.wish]
    obtain ⟨G, g, u, W, L, ia, pa, ua, a, ids, used, pvs, pls, D, rfl, hQ, hF, hC, hW, hq, hia, hua, hpa, hpl, hB, li, lu, lp, a0, a6, hw, qf, qt⟩ := h
    have cl_Counts := T.cl_Counts
    have cl_Device := T.cl_Device
    have cl_Layout := T.cl_Layout
    have cl_Log := T.cl_Log
    have na_Counts_commit_blocks := T.na_Counts_commit_blocks
    have na_Counts_commits := T.na_Counts_commits
    have na_Device_layout := T.na_Device_layout
    have na_Layout_payload := T.na_Layout_payload
    have na_Layout_segment_blocks := T.na_Layout_segment_blocks
    have na_Log_counts := T.na_Log_counts
    have na_Log_last_sequence := T.na_Log_last_sequence
    have na_Log_layout := T.na_Log_layout
    have na_Log_place := T.na_Log_place
    have na_Log_queue := T.na_Log_queue
    obtain ⟨dx, fs, hg, F⟩ := hQ.obj
    have l1 := F.place
    have l2 := F.lay
    have l3 := F.qa
    have few := F.few
    obtain ⟨dxl, fsl, hl1, Fl⟩ := hQ.sta.lay.mono hF.gh
    have l4 := Fl.blk
    have l5 := Fl.pay
    have hqa := hF.gh _ _ hQ.sta.qa
    have hia1 := hF.gh.seq hia
    have hua1 := hF.gh.seq hua
    refine r_cut (fun σ' H' => ∃ (W1 : LgM) (G' : Hp) (u' : LU), roomW L W ids.length = some W1 ∧ W1.m = W.m ∧ W1.cs = W.cs ∧ W1.last = W.last ∧ WOk L W1 ∧ σ' = [some (.ref g), some (.ref ia), some (.ref pa), some (.ref ua), some (.int a), none] ∧ LogS K T.A_Log T.A_Device T.A_Counts T.A_Layout L g G H u G' H' u' W1) ?_ ?_
    · walk_at "go"
      rw [List.length_map]
      refine r_ite (fun c => ?_) (fun c => ?_)
      · refine r_cut (fun σ' H' => H = H' ∧ σ' = [some (.ref g), some (.ref ia), some (.ref pa), some (.ref ua), some (.int a), none] ∧ ∃ h t, W.queue = h :: t ∧ ids.length ≤ L.pay) ?_ ?_
        · walk_at "go"
          cases hqu : W.queue with
          | nil =>
            rw [hqu] at hqa
            refine ⟨false, .inl ⟨_, .of hqa, rfl⟩, ?_⟩
            walk_at "go"
            refine qf ?_
            unfold roomW
            rw [if_pos c, hqu]
          | cons h t =>
            rw [hqu] at hqa
            refine ⟨true, .inl ⟨_, .of hqa, rfl⟩, ?_⟩
            walk_at "go"
            rw [List.length_map]
            refine r_ite (fun c2 => ?_) (fun c2 => ?_)
            · walk_at "go"
              refine qf ?_
              unfold roomW
              rw [if_pos c, hqu]
              exact if_pos c2
            · walk_at "go"
              exact ⟨rfl, rfl, h, t, rfl, by omega⟩
        rintro σ' H' ⟨rfl, rfl, h, t, hqu, hp⟩
        walk_at "go"
        rename_i G1 H1 u1 S1
        have hh := hq h (by rw [hqu]; exact List.mem_cons_self ..)
        have hr : roomW L W ids.length = some (enterW W h t) := by
          unfold roomW
          rw [if_pos c, hqu]
          exact if_neg (by omega)
        exact ⟨_, _, _, hr, rfl, rfl, rfl, ⟨hW.pl, hW.sl, hW.st, hh.1, hh.2⟩, rfl, S1⟩
      · walk_at "go"
        exact ⟨W, G, u, by unfold roomW; exact if_neg c, rfl, rfl, rfl, hW, rfl, ⟨Stp.refl hF, hQ, fun _ h => .inl h⟩⟩
    rintro σ' H1 ⟨W1, G1, u1, hr, wm, wc, wl, hW1, rfl, S1⟩
    obtain ⟨dx1, fs1, hg1, F1⟩ := S1.q.obj
    have l11 := F1.last
    have ia1 := (S1.st.gg.trans S1.st.gh).seq hia
    have ua1 := (S1.st.gg.trans S1.st.gh).seq hua
    walk_at "go"
    rename_i t1 n1 H2 s2 g2 t2 n2 H3 s3 g3 t3 n3 H4 s4 g4 t4 n4 H5 s5 g5
    have sx : Same H1 H5 := s2.trans (s3.trans (s4.trans s5))
    have S5 := S1.trans (S1.q.grew S1.st.frm sx)
    have hv5 : BlkAt K H5 (.ref t4) (some ⟨1, W.last + 1, 0, .com ids used a⟩) := by
      rw [wl] at g5
      exact ⟨t4, t3, rfl, .of g5, t1, t2, .of (s5 _ _ g4), .of (s5 _ _ (s4 _ _ (s3 _ _ g2))), .of (s5 _ _ (s4 _ _ g3))⟩
    have B5 : Blks K H5 W1.m.shown D := by rw [wm]; exact hB.keeps S5.st.kp
    have P5 := pls_keeps S5.st.kp hpl
    refine i_write_batch (pvs := pvs) (pls := pls) (D := D) rfl S5.q S5.st.frm hC hW1 hv5 (.inl ⟨rfl, ids, used, a, rfl, li, lu, a0, a6⟩) (S5.st.gg.seq hpa) P5 B5 (by rw [wm]; omega) (fun G6 H6 u6 m6 S6 ms6 B6 => ?_)
    obtain ⟨dx6, fs6, hg6, F6⟩ := S6.q.obj
    have l61 := F6.ca
    have hcs : (takeW L W1 ⟨1, W.last + 1, 0, .com ids used a⟩).cs = W.cs := (takeP_rest (L := L) (W := W1)).2.1.trans wc
    obtain ⟨dxc, fsc, hc6, Fc⟩ := S6.q.cnt
    dsimp only at Fc
    rw [hcs] at Fc
    have l62 := Fc.c
    have fewc := Fc.few
    walk_at "go"
    rename_i H7 e7 g7
    have S7 := S6.trans (S6.q.cnt' S6.st.frm hc6 e7 (Fc.c' _))
    have pa7 := (S5.st.trans S7.st).gh.seq ((S5.st.trans S7.st).gg.seq hpa)
    have F7 := Fc.c' (W.cs.c + 1)
    have few7 := F7.few
    refine r_fldaugX (j := 1 + pls.length) rfl g7 cl_Counts na_Counts_commit_blocks F7.cb (by omega) (fun R hR => ?_) ?_
    · walk_at "go"
      rw [Paired.length hpl, List.length_map]
      exact hR
    generalize hH8 : upd H7 _ _ = H8
    have S8 := S7.trans (S7.q.cnt' S7.st.frm g7 hH8 (F7.cb' _))
    walk_at "go"
    have S9 := S5.trans S8
    refine qt W1 hr G6 H8 u6 m6 (S9.to ?_) ?_ ?_
    · rfl
    · rw [← wm]; exact ms6
    · exact B6.keeps ((Keeps.upd hc6 insNF e7).trans (Keeps.upd g7 insNF hH8))
theorem all_some {α : Type} : ∀ {os : List (Option α)}, none ∉ os → ∃ xs : List α, os = xs.map some
  | [], _ => ⟨[], rfl⟩
  | none :: os, h => absurd (List.mem_cons_self ..) h
  | some x :: os, h => by
    obtain ⟨xs, e⟩ := all_some (os := os) fun z => h (List.mem_cons_of_mem _ z)
    exact ⟨x :: xs, by rw [e]; rfl⟩
def sp_append_move (K : PySem.W.Frag) (C CD CC CL : Addr) : Sp := fun args_ H Q _ => ∃ (G : Hp) (g : Addr) (u : LU) (W : LgM) (L : Lay) (ia : Addr) (ids : List Int) (D : List (Option BD)), args_ = [.ref g, .ref ia] ∧ LogQ K C CD CC CL L G H g u W ∧ Frm (mutL g u) G H ∧ LayC L ∧ WOk L W ∧ (∀ z ∈ W.queue, 0 ≤ z ∧ z < L.seg) ∧ SqL K G ia (ids.map V.int) ∧ Blks K H W.m.shown D ∧ ids.length ≤ 4000 ∧ W.m.wait.length ≤ 80000 ∧ (((W.queue = [] ∨ L.pay < ids.length ∨ none ∈ ids.map (fun a => payD (readD D a))) → ∀ H', Same H H' → Q (.bl false) H')) ∧ ∀ h t pls, W.queue = h :: t → (ids.length : Int) ≤ L.pay → ids.map (fun a => payD (readD D a)) = pls.map some → ∀ G' H' u' m', LogS K C CD CC CL L g G H u G' H' u' { takeW L (enterW W h t) ⟨2, W.last + 1, 0, .ints ids⟩ with m := m', cs := { W.cs with m := W.cs.m + 1, mb := W.cs.mb + (1 + pls.length) } } → MS L.dev.toNat (1 + pls.length) W.m m' → Blks K H' m'.shown (writeD L (enterW W h t) ⟨2, W.last + 1, 0, .ints ids⟩ pls D) → Q (.bl true) H'
theorem i_append_move {K : PySem.W.Frag} {C CD CC CL : Addr} {args_ : List V} {H : Hp} {Q : V → Hp → Prop} {E : XK} {G : Hp} {g : Addr} {u : LU} {W : LgM} {L : Lay} {ia : Addr} {ids : List Int} {D : List (Option BD)} (ev : args_ = [.ref g, .ref ia]) (hQ : LogQ K C CD CC CL L G H g u W) (hF : Frm (mutL g u) G H) (hC : LayC L) (hW : WOk L W) (hq : (∀ z ∈ W.queue, 0 ≤ z ∧ z < L.seg)) (hia : SqL K G ia (ids.map V.int)) (hB : Blks K H W.m.shown D) (li : ids.length ≤ 4000) (hw : W.m.wait.length ≤ 80000) (qf : ((W.queue = [] ∨ L.pay < ids.length ∨ none ∈ ids.map (fun a => payD (readD D a))) → ∀ H', Same H H' → Q (.bl false) H')) (qt : ∀ h t pls, W.queue = h :: t → (ids.length : Int) ≤ L.pay → ids.map (fun a => payD (readD D a)) = pls.map some → ∀ G' H' u' m', LogS K C CD CC CL L g G H u G' H' u' { takeW L (enterW W h t) ⟨2, W.last + 1, 0, .ints ids⟩ with m := m', cs := { W.cs with m := W.cs.m + 1, mb := W.cs.mb + (1 + pls.length) } } → MS L.dev.toNat (1 + pls.length) W.m m' → Blks K H' m'.shown (writeD L (enterW W h t) ⟨2, W.last + 1, 0, .ints ids⟩ pls D) → Q (.bl true) H') : sp_append_move K C CD CC CL args_ H Q E := ⟨G, g, u, W, L, ia, ids, D, ev, hQ, hF, hC, hW, hq, hia, hB, li, hw, qf, qt⟩
local macro_rules | `(tactic| walk_at "ca1") => `(tactic| with_reducible (refine' Sg.i_append_move ?ev ?hQ ?hF ?hC ?hW ?hq ?hia ?hB ?li ?hw ?qf ?qt; (case ev => (with_unfolding_all rfl)); (case hQ => (with_unfolding_all walk_at "pr")); (case hF => (with_unfolding_all walk_at "pr")); (case hC => (with_unfolding_all walk_at "pr")); (case hW => (with_unfolding_all walk_at "pr")); (case hq => (with_unfolding_all walk_at "pr")); (case hia => (with_unfolding_all walk_at "pr")); (case hB => (with_unfolding_all walk_at "pr")); (case li => (with_unfolding_all walk_at "pr")); (case hw => (with_unfolding_all walk_at "pr"))))

theorem ok_append_move (T : Txt K mg) : FnOk P w K mg base CX0 5 T.a_append_move T.fd_append_move ["log", "addresses"] (sp_append_move K T.A_Log T.A_Device T.A_Counts T.A_Layout) := by
  refine T.F_append_move.ok sc_append_move (fun vs H Q E h => ?_) (fun cdv A outer s H vs Q E hr h => ?_)
  · obtain ⟨G, g, u, W, L, ia, ids, D, rfl, _⟩ := h
    rfl
  · refine ⟨_, (pss_cons (ps_setLc (i := 2) (own := [("address", 4)]) (g := gName 4) (tt := tYes) rfl sc_append_move.nd rfl rfl (sw_true rfl rfl rfl (by decide +kernel)) (pi_list (pv 1)) (blkOk_by (own := [("address", 4)]) (N := n_append_move) (sc := defScope s_append_move) (by decide +kernel)) (fun _ _ _ _ _ => pg_name (i := 4) sc_append_move.nd rfl (Or.inl rfl)) (fun _ _ _ _ _ => pts_nil) (fun _ _ _ _ _ => (pe_call (ok_payload_at T) (hr.mono (by decide)) rfl T.m_payload_at T.F_payload_at.kp T.b_payload_at .nil pass0 (pa_cons (pv 0) (pa_cons (pv 4) pa_nil)))))
       (C8.pss_cut (ps_if (PW.pt (pw_or (pt_not (pt_truth (pe_fld (pv 0) rfl) (by intro _; rfl))) (pw_or (pt_cmpR op_gt (pe_callB (c_len) (by rfl) T.n_len (by decide +kernel) (pa_cons (pv 1) pa_nil)) (pe_fld (pe_fld (pv 0) rfl) rfl) (nomark _)) (pw_or1 (pt_cmpR (op_inD (hu65 hr)) pe_non (pv 2) (by with_unfolding_all rfl))))))
       (pss_one (ps_ret pe_bl))
       pss_nil)
       (pss_cons (ps_expr (pe_call (ok_enter_next_segment T) (hr.mono (by decide)) rfl T.m_enter_next_segment T.F_enter_next_segment.kp T.b_enter_next_segment .nil pass0 (pa_cons (pv 0) pa_nil)))
       (pss_cons (ps_expr (pe_call (ok_write_batch T) (hr.mono (by decide)) rfl T.m_write_batch T.F_write_batch.kp T.b_write_batch .nil pass0 (pa_cons (pv 0) (pa_cons (pe_tup (pa_cons (pe_glob rfl T.c_MOVE T.r_MOVE) (pa_cons (pe_op op_add (pe_fld (pv 0) rfl) pe_int) (pa_cons pe_int (pa_cons (pe_callTy c_tuple (by rfl) T.n_tuple (by decide +kernel) (pa_cons (pv 1) pa_nil)) pa_nil))))) (pa_cons (pv 2) pa_nil)))))
       (pss_cons (ps_set (i := 3) sc_append_move.nd rfl (Or.inl rfl) (pe_fld (pv 0) rfl))
       (pss_cons (ps_fldaug (pv 3) pe_int in_add)
       (pss_cons (ps_fldaug (pv 3) (pe_op op_add pe_int (pe_callB (c_len) (by rfl) T.n_len (by decide +kernel) (pa_cons (pv 2) pa_nil))) in_add)
       (pss_one (ps_ret pe_bl))))))))), ?_⟩
    try dsimp only [cxOf, Cx.nox, Cx.wish]
    obtain ⟨G, g, u, W, L, ia, ids, D, rfl, hQ, hF, hC, hW, hq, hia, hB, li, hw, qf, qt⟩ := h
    have cl_Counts := T.cl_Counts
    have cl_Device := T.cl_Device
    have cl_Layout := T.cl_Layout
    have cl_Log := T.cl_Log
    have na_Counts_move_blocks := T.na_Counts_move_blocks
    have na_Counts_moves := T.na_Counts_moves
    have na_Device_layout := T.na_Device_layout
    have na_Layout_payload := T.na_Layout_payload
    have na_Log_counts := T.na_Log_counts
    have na_Log_last_sequence := T.na_Log_last_sequence
    have na_Log_layout := T.na_Log_layout
    have na_Log_queue := T.na_Log_queue
    have hia1 := hF.gh.seq hia
    have tk : ∀ i : Nat, ∀ z, ids[i]? = some z → (ids.take (i + 1)).map (fun a => payD (readD D a)) = (ids.take i).map (fun a => payD (readD D a)) ++ [payD (readD D z)] := fun i z h => by rw [List.take_add_one, h, List.map_append]; rfl
    walk_at "go"
    refine r_lcLA (fun i acc H' => Paired (PlAt K H') acc ((ids.take i).map fun a => payD (readD D a))) hia1 (by rw [List.length_map]; omega) rfl .nil ?_ ?_
    · intro i x acc H0 H1 hx s0 hp s1 R hR
      rw [List.getElem?_map] at hx
      obtain ⟨z, hz, rfl⟩ := Option.map_eq_some_iff.mp hx
      have hQ1 := (hQ.grew hF (s0.trans s1)).q
      have hB1 := hB.keeps (Keeps.of (s0.trans s1))
      walk_at "go"
      rename_i H2 v s2 hv
      refine hR _ _ s2 fun D' d0 d1 => ?_
      rw [tk i z hz]
      exact paired_snoc (pls_keeps (Keeps.of (same_hid (s1.trans s2) d0)) hp) (hv.keeps (keeps_hid (s2 _ _ d1)))
    intro H1 pl acc s1 npl gpl al hp
    rw [List.length_map, List.take_length] at hp
    have hp1 := pls_keeps (Keeps.of hid_same) hp
    have S1 := hQ.grew hF s1
    have gpG : grow G H H1 pl = some (.lst acc) := by rw [grow_new npl]; exact gpl
    obtain ⟨dx, fs, hg, F⟩ := S1.q.obj
    have l2 := F.lay
    have l3 := F.qa
    have few := F.few
    obtain ⟨dxl, fsl, hl1, Fl⟩ := S1.q.sta.lay.mono S1.st.gh
    have l5 := Fl.pay
    have hqa := S1.st.gh _ _ S1.q.sta.qa
    have ia1 := s1.seq hia1
    refine r_cut (fun σ' H' => H1 = H' ∧ σ' = [some (.ref g), some (.ref ia), some (.ref pl), none, none] ∧ ∃ h t, W.queue = h :: t ∧ (ids.length : Int) ≤ L.pay ∧ none ∉ ids.map (fun a => payD (readD D a))) ?_ ?_
    · walk_at "go"
      cases hqu : W.queue with
      | nil =>
        rw [hqu] at hqa
        refine ⟨false, .inl ⟨_, .of hqa, rfl⟩, ?_⟩
        walk_at "go"
        exact qf (.inl hqu) _ s1
      | cons h t =>
        rw [hqu] at hqa
        refine ⟨true, .inl ⟨_, .of hqa, rfl⟩, ?_⟩
        walk_at "go"
        rw [List.length_map]
        refine r_ite (fun c2 => ?_) (fun c2 => ?_)
        · walk_at "go"
          exact qf (.inr (.inl c2)) _ s1
        · walk_at "go"
          refine r_noneInP gpl hp1 ?_
          walk_at "go"
          refine to_ite (fun c3 => ?_) (fun c3 => ?_)
          · walk_at "go"
            exact qf (.inr (.inr (anyN_of c3))) _ s1
          · walk_at "go"
            exact ⟨rfl, rfl, h, t, rfl, by omega, anyN_not c3⟩
    rintro σ' H' ⟨rfl, rfl, h, t, hqu, hpay, hnn⟩
    obtain ⟨pls, epl⟩ := all_some hnn
    rw [epl] at hp1
    walk_at "go"
    refine i_enter_next_segment rfl S1.q S1.st.frm hqu (fun G2 H2 u2 S2 => ?_)
    have hh := hq h (by rw [hqu]; exact List.mem_cons_self ..)
    have S2' := S1.trans S2
    obtain ⟨dx2, fs2, hg2, F2⟩ := S2'.q.obj
    have l21 := F2.last
    dsimp only at l21
    have ia2 := (S2'.st.gg.trans S2'.st.gh).seq hia
    walk_at "go"
    rename_i t1 n1 H3 s3 g3 t4 n4 H5 s5 g5
    have S5 := S2'.trans (S2'.q.grew S2'.st.frm (s3.trans s5))
    have hv5 : BlkAt K H5 (.ref t4) (some ⟨2, W.last + 1, 0, .ints ids⟩) := ⟨t4, t1, rfl, .of g5, .of (s5 _ _ g3)⟩
    have B5 : Blks K H5 (enterW W h t).m.shown D := hB.keeps S5.st.kp
    have P5 := pls_keeps (S2.st.kp.trans (Keeps.of (s3.trans s5))) hp1
    have lp : pls.length = ids.length := by
      have := congrArg List.length epl
      rw [List.length_map, List.length_map] at this
      exact this.symm
    have hpG := (S2.trans (S2.q.grew S2.st.frm (s3.trans s5))).st.gg _ _ gpG
    refine i_write_batch (W := enterW W h t) (pvs := acc) (pls := pls) (D := D) rfl S5.q S5.st.frm hC ⟨hW.pl, hW.sl, hW.st, hh.1, hh.2⟩ hv5 (.inr ⟨(by show (2 : Int) ≠ 1; decide), ids, rfl, li⟩) (.of hpG) P5 B5 (by show W.m.wait.length + _ ≤ _; omega) (fun G6 H6 u6 m6 S6 ms6 B6 => ?_)
    obtain ⟨dx6, fs6, hg6, F6⟩ := S6.q.obj
    have l61 := F6.ca
    have hcs : (takeW L (enterW W h t) ⟨2, W.last + 1, 0, .ints ids⟩).cs = W.cs := (takeP_rest (L := L) (W := enterW W h t)).2.1
    obtain ⟨dxc, fsc, hc6, Fc⟩ := S6.q.cnt
    dsimp only at Fc
    rw [hcs] at Fc
    have l62 := Fc.m
    have fewc := Fc.few
    walk_at "go"
    rename_i H7 e7 g7
    have S7 := S6.trans (S6.q.cnt' S6.st.frm hc6 e7 (Fc.m' _))
    have pl7 := S7.st.gh _ _ (S7.st.gg _ _ hpG)
    have F7 := Fc.m' (W.cs.m + 1)
    have few7 := F7.few
    refine r_fldaugX (j := 1 + pls.length) rfl g7 cl_Counts na_Counts_move_blocks F7.mb (by omega) (fun R hR => ?_) ?_
    · walk_at "go"
      rw [Paired.length hp1, List.length_map]
      exact hR
    generalize hH8 : upd H7 _ _ = H8
    have S8 := S7.trans (S7.q.cnt' S7.st.frm g7 hH8 (F7.mb' _))
    walk_at "go"
    have S9 := S5.trans S8
    refine qt h t pls hqu hpay epl G6 H8 u6 m6 (S9.to ?_) ?_ ?_
    · rfl
    · exact ms6
    · exact B6.keeps ((Keeps.upd hc6 insNF e7).trans (Keeps.upd g7 insNF hH8))

/-! ### properties, calls with keywords, extend, min of two -/
def kProp (C : Addr) (sp : Sp) (dvs : List V) (E : XK) (Q : V → Hp → Prop) : V → Hp → Prop := fun x H1 => ∃ a dx fs, x = .ref a ∧ H1 a = some (.ins C dx fs) ∧ sp (.ref a :: dvs) H1 Q E
theorem r_prop {C : Addr} {sp : Sp} {dvs : List V} {E : XK} {ta : TE} {σ : L2.St} {H : Hp} {Q : V → Hp → Prop} (h : ta σ H (kProp C sp dvs E Q)) : tProp C sp dvs E ta σ H Q := h
theorem r_kprop {C a dx : Addr} {fs : List (Str × V)} {sp : Sp} {dvs : List V} {E : XK} {H : Hp} {Q : V → Hp → Prop} (h : H a = some (.ins C dx fs)) (q : sp (.ref a :: dvs) H Q E) : kProp C sp dvs E Q (.ref a) H := ⟨a, dx, fs, rfl, h, q⟩
theorem r_makeN {C : Addr} {n m : Nat} {sp : Sp} {gV : List V → List V → List V} {E : XK} {t tk : TA} {σ : L2.St} {H : Hp} {Q : V → Hp → Prop} (h : t σ H fun vs H1 => tk σ H1 fun zs H2 => vs.length = n ∧ zs.length = m ∧ ∀ x dx, H2 x = none → H2 dx = none → dx ≠ x →
    sp (gV (.ref x :: vs) zs) (upd (upd H2 dx (.own x)) x (.ins C dx [])) (fun v H3 => v = .non ∧ Q (.ref x) H3) E) : tMakeN C n m sp gV E t tk σ H Q := h
theorem r_callN {n m : Nat} {sp : Sp} {gV : List V → List V → List V} {E : XK} {t tk : TA} {σ : L2.St} {H : Hp} {Q : V → Hp → Prop} (h : t σ H fun vs H1 => tk σ H1 fun zs H2 => vs.length = n ∧ zs.length = m ∧ sp (gV vs zs) H2 Q E) : tCallN n m sp gV E t tk σ H Q := h
theorem r_ext {l b : Addr} {xs zs : List V} {H : Hp} {Q : V → Hp → Prop} (h : H l = some (.lst xs)) (hb : H b = some (.lst zs)) (hz : xs.length + zs.length ≤ 1000000) (q : Q .non (upd H l (.lst (xs ++ zs)))) : rExtend (.ref l) [.ref b] H Q :=
  ⟨l, b, xs, zs, rfl, rfl, h, hb, by rw [sz]; omega, q⟩

/-! ### {e for x in xs if t}, e an int -/
/-- what the block asks once its walk stands at J -/
def kSI (w : World) (g : TG) (tt : TT) (te : TE) (vs : List Nat) (σ : L2.St) (Q : V → Hp → Prop) : It → Hp → Prop := fun J H1 => ∀ D, H1 D = none → ∃ W : Nat → Nat → Hp → Prop, (∃ m, W 0 m (upd H1 D (SetO w D (fun _ => false) 0))) ∧ ∀ i m H, W i m H →
  (J.stop i H ∧ Q (.ref D) H) ∨ (J.go i H ∧ ∃ Nx : Hp → Prop, (∀ H', Nx H' → ∃ m', m' < m ∧ W (i + 1) m' H') ∧ ∀ x H', J.yld i H x H' → g x (wipe σ vs) H' fun σ2 H2 => wipe σ2 vs = wipe σ vs ∧ tt σ2 H2 fun b H3 =>
    if b = true then te σ2 H3 fun y H4 => ∃ k : Int, y = .int k ∧ ∃ (S : Int → Bool) (n : Nat), H4 D = some (SetO w D S n) ∧ n + 1 < PySem.scanBound ∧ Nx (upd H4 D (SetO w D (fun j => S j || decide (j = k)) (if S k = true then n else n + 1))) else Nx H3)
def tSI (w : World) (wi : TI) (g : TG) (tt : TT) (te : TE) (vs : List Nat) : TE := fun σ H Q => wi σ H (kSI w g tt te vs σ Q)
theorem pe_si {X : Cx} {elt tg iter : Expr} {ifs : List Expr} {scope : Scope} {own : List (Str × Nat)} {pos : Pos} {wi : TI} {g : TG} {tt : TT} {te : TE} (hc : X.calm = true) (hN : X.N.Nodup) (hi : PI X tg iter wi) (ok : BlkOk X.N X.env.scope scope own)
    (hg : ∀ (z : Shared) (M : Hp) (c : Addr) (cl : List (Str × Addr)) (fp : List Addr), PG (X.blk z M scope (compEnvC scope cl c X.env) fp) tg g) (ht : ∀ (z : Shared) (M : Hp) (c : Addr) (cl : List (Str × Addr)) (fp : List Addr), PTs (X.blk z M scope (compEnvC scope cl c X.env) fp) ifs tt)
    (he : ∀ (z : Shared) (M : Hp) (c : Addr) (cl : List (Str × Addr)) (fp : List Addr), PE (X.blk z M scope (compEnvC scope cl c X.env) fp) elt te) (hs : ∀ x, foldedSetIterable iter X.env x = pure x := by intro _; rfl) :
    PE X (.SetComp elt [⟨tg, iter, ifs, 0⟩] scope pos) (tSI X.w wi g tt te (own.map (·.2))) := by
  refine ⟨fun pins z0 σ H Q I h => ?_⟩
  rw [PpSet.eval_SetComp]
  have caps : ∀ y ∈ scope.names, y.2 = .free → ∃ c, X.env.cells.lookup y.1 = some c := fun y hy e => (ok.free y hy e).elim (fun k => I.ok.has _ (.inl k)) fun k => I.ok.has _ (.inr k)
  refine wpAny_comprehension_free rfl hs (closure_ok caps) ok.kind (fun y hy e => (ok.uniq y hy).trans (congrArg some e)) (thn (hi.run pins z0 σ H _ I h) fun _ z1 hx => thn hx fun _ z2 ⟨it, fp, tn, J, Ha, e, Ia, T, at0, fps, q⟩ => ?_)
  subst e
  refine PpSet.newSet_ok (newEnv_comp ?_)
  generalize hD : z2.heap.objs.size = D
  obtain ⟨W, ⟨m0, w0⟩, turn⟩ := q D (Ia.hok.fresh (Nat.le_of_eq hD))
  generalize eS : Heap.push z2.heap { cls := .type "set", dict := none, data := .set #[] 0 (.fresh 0 0 (!X.w.params.followText "set-order")) } = hp1
  generalize eZ : ({ z2 with heap := hp1 } : Shared) = z3
  have eh : z3.heap = hp1 := by rw [← eZ]
  generalize eH : upd Ha D (SetO X.w D (fun _ => false) 0) = Hb at w0
  have Ib : Inv X pins σ Hb z3 := by
    subst eZ eS eH
    refine Ia.laid (t' := z2.toks) (fun b o k => Heap.get?_push_of_some _ k) (Nat.le_of_eq hD) ?_
    subst hD
    exact setO_new (setR_fresh X.w)
  have small : ∀ b ∈ fp, b < z2.heap.objs.size := fun b hb => by
    obtain ⟨o, k, _⟩ := T.obj _ _ at0 b hb
    exact Heap.lt_size k
  have fpb : ∀ b ∈ fp, FpOk X pins Hb b ∧ b < z3.heap.objs.size := fun b hb => by
    have lt := small b hb
    refine ⟨⟨?_, (fps b hb).2⟩, ?_⟩
    · subst eH
      rw [upd_ne (by subst hD; exact Nat.ne_of_lt lt)]
      exact (fps b hb).1
    · rw [eh, ← eS, Heap.size_push]
      exact Nat.lt_succ_of_lt lt
  have at3 : tn 0 z3.heap := T.keep _ _ _ at0 fun b _ o k => by
    rw [eh, ← eS]
    exact Heap.get?_push_of_some _ k
  have Ic := block_start Ib ok hN fpb
  have pg := hg z3 Hb z3.heap.objs.size (cellsFrom (z3.heap.objs.size + 1) scope.names (cloFrom X.env.cells scope.names [])) fp
  have pt := ht z3 Hb z3.heap.objs.size (cellsFrom (z3.heap.objs.size + 1) scope.names (cloFrom X.env.cells scope.names [])) fp
  have pe := he z3 Hb z3.heap.objs.size (cellsFrom (z3.heap.objs.size + 1) scope.names (cloFrom X.env.cells scope.names [])) fp
  show codeAny _ _ (.compStart _ 0 (.ref it) (.ref D) (compEnvC scope (cellsFrom (z3.heap.objs.size + 1) scope.names (cloFrom X.env.cells scope.names [])) z3.heap.objs.size X.env)) _ { z3 with heap := pushCells (z3.heap.push { cls := .type "dict", data := .dict #[] }) scope.names }
  generalize eC : compEnvC scope (cellsFrom (z3.heap.objs.size + 1) scope.names (cloFrom X.env.cells scope.names [])) z3.heap.objs.size X.env = ce at Ic pg pt pe ⊢
  have eL : ce.locals = z3.heap.objs.size := by subst eC; rfl
  generalize e4 : ({ z3 with heap := pushCells (z3.heap.push { cls := .type "dict", data := .dict #[] }) scope.names } : Shared) = z4 at Ic ⊢
  have at4 : tn 0 z4.heap := T.keep _ _ _ at3 fun b _ o k => by
    rw [← e4]
    exact pushCells_keeps _ _ _ _ (Heap.get?_push_of_some _ k)
  have kp : ∀ {σ' : L2.St} {M : Hp} {z : Shared}, Inv (X.blk z3 Hb scope ce fp) [] σ' M z → (∀ b ∈ fp, M b = none) → ∀ b ∈ fp, FpOk (X.blk z3 Hb scope ce fp) [] M b := fun J hn b hb =>
    ⟨hn b hb, (J.ok.exf b hb).1, J.ok.exfs b hb, .inl hb, fun x c k => (J.ok.exf b hb).2 x c k, fun p hp => by cases (show p ∈ ([] : List (Addr × Obj)) from hp)⟩
  refine PpSet.codeAny_compStart_set ?loop (T.self X.A 0 _ _ _ at4 ?loop)
  case loop =>
    refine PpSet.compLoopS_any (fun n z => ∃ i M, Inv (X.blk z3 Hb scope ce fp) [] (wipe σ (own.map (·.2))) M z ∧ tn i z.heap ∧ (∀ b ∈ fp, M b = none) ∧ W i n M) ?_ m0 ⟨0, Hb, Ic, at4, fun b hb => (fpb b hb).1.1, w0⟩
    rintro n z5 ⟨i, M5, I5, at5, nf, w5⟩
    rcases turn i n M5 w5 with ⟨stop, qe⟩ | ⟨go, Nx, hNx, step⟩
    · refine thnF (T.done (X.blk z3 Hb scope ce fp) rfl rfl rfl hc i [] z5 _ M5 (fun _ _ => False) I5 (kp I5 nf) at5 stop) fun r z6 ⟨hr, I6⟩ => ?_
      subst hr
      have I7 : Inv X pins σ M5 z6 := Ib.call' (ch := fp) I6.os I6.base I6.hok I6.bare fun b hb =>
        let f := (fpb b hb).1.2
        ⟨f.2.2.1, f.1, f.2.2.2.1, f.2.2.2.2⟩
      have nC : M5 z3.heap.objs.size = none := by
        rw [← eL]
        exact I6.free
      obtain ⟨m, hm, _⟩ := I6.loc
      have hm : z6.heap.Ns z3.heap.objs.size m := by
        rw [← eL]
        exact hm
      have F := Ib.fpOk (Nat.le_refl _) nC
      refine ⟨m, hm, fun hq sb => ⟨.ref D, M5, I7.turned (t' := z6.toks) (fun b o hb k => (sb.2 b hb).trans k) F.1 F.2.1 F.2.2.2.1 F.2.2.2.2.1 F.2.2.2.2.2, rfl, qe⟩⟩
    · refine thnF (T.item (X.blk z3 Hb scope ce fp) rfl rfl rfl hc i [] z5 _ M5 (fun _ _ => False) I5 (kp I5 nf) at5 go) fun r z6 ⟨u, hr, h6⟩ => ?_
      subst hr
      refine thnF h6 fun _ z7 ⟨x, M7, I7, r7, y7, at7, n7⟩ => ?_
      refine thnF (pg.run _ z7 _ M7 x u _ (I7.pinned (kp I7 n7) (T.obj _ _ at7)) r7 (step x M7 y7)) fun _ z8 ⟨σ8, M8, I8, hw, q8⟩ => ?_
      refine thnF (pt.run _ z8 σ8 M8 _ I8 q8) fun b z9 ⟨M9, I9, q9⟩ => ?_
      have fin : ∀ {z : Shared} {M : Hp}, Inv (X.blk z3 Hb scope ce fp) ([] ++ pinsAt fp z7.heap) σ8 M z → Nx M → ∃ m, m < n ∧ ∃ i M, Inv (X.blk z3 Hb scope ce fp) [] (wipe σ (own.map (·.2))) M z ∧ tn i z.heap ∧ (∀ b ∈ fp, M b = none) ∧ W i m M := fun {z M} J nx => by
        obtain ⟨m', lt, w'⟩ := hNx M nx
        have pin : ∀ b ∈ fp, ∀ o, z7.heap.get? b = some o → z.heap.get? b = some o ∧ M b = none := fun b hb o k =>
          have y := J.pin (b, o) (List.mem_append_right _ (List.mem_append_right _ (mem_pinsAt hb k)))
          ⟨y.1, y.2.1⟩
        refine ⟨m', lt, i + 1, M, (J.unpinned (pins := [])).weak (by rw [← hw, wipe_length]) (fun j v k => ?_), T.keep _ _ _ at7 fun b hb o k => (pin b hb o k).1, fun b hb => ?_, w'⟩
        · rw [← hw] at k
          exact (wipe_some k).1
        · obtain ⟨o, k, _⟩ := T.obj _ _ at7 b hb
          exact (pin b hb o k).2
      cases b with
      | false =>
        simp only [Bool.false_eq_true, if_false] at q9 ⊢
        exact fin I9 q9
      | true =>
        simp only [if_true] at q9 ⊢
        refine thnF (pe.run _ z9 σ8 M9 _ I9 q9) fun y z10 ⟨v, M10, I10, r10, k, ev, S, c, hS, lt, nx⟩ => ?_
        subst ev
        obtain ⟨tk, rfl⟩ := r10
        refine setR_add (setO_get (X := X.blk z3 Hb scope ce fp) I10 hS) lt fun hq sb new => ?_
        refine fin (I10.write (e := D) (t' := z10.toks + 1) (by rw [hS]; trivial) (.inl rfl) (fun b u hb hu => (sb.2 b hb).trans hu) ?_ (setO_new new)) nx
        obtain ⟨o, _, _, _, ho, _⟩ := new
        exact ⟨o, ho⟩
theorem r_si {w : World} {wi : TI} {g : TG} {tt : TT} {te : TE} {vs : List Nat} {σ : L2.St} {H : Hp} {Q : V → Hp → Prop} (h : wi σ H (kSI w g tt te vs σ Q)) : tSI w wi g tt te vs σ H Q := h
/-- over a list, its turns by what they give -/
theorem r_siL {w : World} {K : PySem.W.Frag} {a : Addr} {xs : List V} {slot : Nat} {vs : List Nat} {tt : TT} {te : TE} {σ : L2.St} {H : Hp} {Q : V → Hp → Prop} (f : Nat → Option Int) (hx : SqL K H a xs) (hl : xs.length ≤ 4000) (hv : vs = [slot])
    (hs : ∀ (i : Nat) (x : V) (H' : Hp), xs[i]? = some x → L2.Same H H' → ∀ G : Option Int → Hp → Prop, (∀ H2, L2.Same H' H2 → G (f i) H2) →
      tt ((wipe σ vs).set slot (some x)) H' fun b H3 => if b = true then te ((wipe σ vs).set slot (some x)) H3 fun y H4 => ∃ k : Int, y = .int k ∧ G (some k) H4 else G none H3)
    (q : ∀ (H' : Hp) (D : Addr) (S : Int → Bool) (n : Nat), L2.Same H H' → H D = none → H' D = some (SetO w D S n) → n ≤ xs.length → (∀ k, S k = true ↔ ∃ i, i < xs.length ∧ f i = some k) → Q (.ref D) H') :
    kSI w (gName slot) tt te vs σ Q (Itl K a) H := by
  intro D hD
  refine ⟨fun i m H' => m = xs.length - i ∧ i ≤ xs.length ∧ L2.Same H H' ∧ ∃ S n, H' D = some (SetO w D S n) ∧ n ≤ i ∧ ∀ k, S k = true ↔ ∃ j, j < i ∧ f j = some k,
    ⟨xs.length, rfl, Nat.zero_le _, fun b o e => by rw [upd_ne (ne_of_none e hD)]; exact e, _, 0, upd_same, Nat.le_refl 0, fun k => ⟨fun z => by simp at z, fun ⟨j, z, _⟩ => absurd z (by omega)⟩⟩, ?_⟩
  rintro i m H' ⟨rfl, hi, s, S, n, hS, hn, hk⟩
  have hx' := s.seq hx
  by_cases hlt : i < xs.length
  · refine .inr ⟨⟨xs, xs[i], hx', by simp [hlt]⟩, fun H2 => L2.Same H H2 ∧ ∃ S n, H2 D = some (SetO w D S n) ∧ n ≤ i + 1 ∧ ∀ k, S k = true ↔ ∃ j, j < i + 1 ∧ f j = some k, fun H2 ⟨s2, S2, n2, h2, l2, k2⟩ => ⟨xs.length - (i + 1), by omega, rfl, hlt, s2, S2, n2, h2, l2, k2⟩, fun x H2 y => ?_⟩
    obtain ⟨rfl, y⟩ := y
    have ex := y xs hx'
    refine r_gname ⟨?_, ?_⟩
    · subst hv
      simp [wipe, List.set_set]
    · refine hs i x _ ex s (fun o H4 => match o with
        | some k => ∃ (S : Int → Bool) (n : Nat), H4 D = some (SetO w D S n) ∧ n + 1 < PySem.scanBound ∧ (L2.Same H (upd H4 D (SetO w D (fun j => S j || decide (j = k)) (if S k = true then n else n + 1))) ∧ ∃ S' n', upd H4 D (SetO w D (fun j => S j || decide (j = k)) (if S k = true then n else n + 1)) D = some (SetO w D S' n') ∧ n' ≤ i + 1 ∧ ∀ k, S' k = true ↔ ∃ j, j < i + 1 ∧ f j = some k)
        | none => L2.Same H H4 ∧ ∃ S n, H4 D = some (SetO w D S n) ∧ n ≤ i + 1 ∧ ∀ k, S k = true ↔ ∃ j, j < i + 1 ∧ f j = some k) fun H4 s4 => ?_
      have hS4 := s4 _ _ hS
      cases ef : f i with
      | none =>
        refine ⟨s.trans s4, S, n, hS4, by omega, fun k => (hk k).trans ⟨fun ⟨j, z, e⟩ => ⟨j, by omega, e⟩, fun ⟨j, z, e⟩ => ⟨j, ?_, e⟩⟩⟩
        rcases Nat.lt_or_ge j i with c | c
        · exact c
        · rw [show j = i by omega, ef] at e
          cases e
      | some k =>
        refine ⟨S, n, hS4, Nat.lt_of_le_of_lt (Nat.succ_le_succ (Nat.le_trans hn (Nat.le_trans hi hl))) (by decide), fun b o e => ?_, _, _, upd_same, by split <;> omega, fun k' => ?_⟩
        · rw [upd_ne (ne_of_none e hD)]
          exact s4 _ _ (s _ _ e)
        · rw [Bool.or_eq_true, hk, decide_eq_true_iff]
          constructor
          · rintro (⟨j, z, e⟩ | rfl)
            · exact ⟨j, by omega, e⟩
            · exact ⟨i, by omega, ef⟩
          · rintro ⟨j, z, e⟩
            rcases Nat.lt_or_ge j i with c | c
            · exact .inl ⟨j, c, e⟩
            · rw [show j = i by omega, ef] at e
              cases e
              exact .inr rfl
  · have e : i = xs.length := by omega
    subst e
    exact .inl ⟨⟨xs, hx', Nat.le_refl _⟩, q H' D S n s hD hS hn hk⟩
theorem r_sset {w : World} {H : Hp} {D : Addr} {S : Int → Bool} {n : Nat} {Q : V → Hp → Prop} (h : H D = some (SetO w D S n)) (h64 : n < 64)
    (q : ∀ (ns : List Int) (p : Addr), ns.Pairwise (· < ·) → (∀ k : Int, k ∈ ns ↔ S k = true) → ns.length = n → H p = none → Q (.ref p) (upd H p (.lst (ns.map V.int)))) : rSortedSet w [.ref D] H Q := ⟨D, S, n, rfl, h, h64, q⟩

def filI (ns : List Int) (c : Nat) : List Int := (ns ++ List.replicate c 0).take c
theorem filI_len (ns : List Int) (c : Nat) : (filI ns c).length = c := by
  unfold filI
  rw [List.length_take, List.length_append, List.length_replicate]
  omega
theorem filI_at {ns : List Int} {c i : Nat} (h : i < c) : (filI ns c).getD i 0 = ns.getD i 0 := by
  unfold filI
  rw [List.getD_eq_getElem?_getD, List.getD_eq_getElem?_getD, List.getElem?_take_of_lt h]
  by_cases hi : i < ns.length
  · rw [List.getElem?_append_left hi]
  · rw [List.getElem?_append_right (by omega), List.getElem?_eq_none (l := ns) (by omega), List.getElem?_replicate]
    split <;> rfl
theorem ext_getD {l l' : List Int} {n : Nat} (h : l.length = n) (h' : l'.length = n) (e : ∀ i, i < n → l.getD i 0 = l'.getD i 0) : l = l' := by
  refine List.ext_getElem (by omega) fun i h1 h2 => ?_
  have := e i (by omega)
  rw [List.getD_eq_getElem?_getD, List.getD_eq_getElem?_getD, List.getElem?_eq_getElem h1, List.getElem?_eq_getElem h2] at this
  exact this

/-! ### [e for x in ..], x by its place, e anything -/
theorem r_lcFn {J : It} {n slot : Nat} {f : Nat → V} {vs : List Nat} {te : TE} {σ : L2.St} {H : Hp} {Q : V → Hp → Prop} (w : Walk J n (fun _ => True) (YFn f)) (P : Nat → List V → Hp → Prop) (hn : n ≤ 100000) (hv : vs = [slot])
    (h0 : P 0 [] H)
    (hs : ∀ (i : Nat) (acc : List V) (H0 H' : Hp), i < n → L2.Same H H0 → P i acc H0 → L2.Same H0 H' → ∀ R : V → Hp → Prop,
      (∀ (v : V) (H'' : Hp), L2.Same H' H'' → (∀ D, H0 D = none → H' D = some (.lst acc) → P (i + 1) (acc ++ [v]) (hid D H'')) → R v H'') → te ((wipe σ vs).set slot (some (f i))) H' R)
    (q : ∀ (H' : Hp) (l : Addr) (acc : List V), L2.Same H H' → H l = none → H' l = some (.lst acc) → acc.length = n → P n acc (hid l H') → Q (.ref l) H') :
    kLc (gName slot) tYes te vs σ Q J H := by
  intro L hL
  have w1 : ∀ (τ : L2.St) (x : V), wipe (τ.set slot (some x)) [slot] = wipe τ [slot] := fun τ x => by simp [wipe, List.set_set]
  have w2 : wipe (wipe σ vs) vs = wipe σ vs := by subst hv; simp [wipe, List.set_set]
  refine lc_it w (fun i H' => ∃ acc : List V, acc.length = i ∧ H' L = some (.lst acc) ∧ L2.Same H H' ∧ P i acc (hid L H')) ⟨[], rfl, upd_same, fun b o e => by rw [upd_ne (ne_of_none e hL)]; exact e, by rw [hid_upd, hid_none hL]; exact h0⟩ (fun _ _ _ _ => trivial) ?_ ?_
  · rintro i x H' H2 hi ⟨acc, el, eL, s, hp⟩ ⟨rfl, rfl⟩
    refine ⟨?_, ?_⟩
    · subst hv
      rw [w1]
      exact w2
    · show te ((wipe σ vs).set slot (some (f i))) H2 _
      refine hs i acc (hid L H2) H2 hi (same_hid s hL) hp hid_same _ fun v H3 s3 hP => ⟨acc, s3 _ _ eL, by rw [el, sz]; omega, acc ++ [v], by rw [List.length_append, el]; rfl, upd_same, fun b o e => ?_, ?_⟩
      · rw [upd_ne (ne_of_none e hL)]
        exact s3 _ _ (s _ _ e)
      · rw [hid_upd]
        exact hP L hid_at eL
  · rintro H' ⟨acc, el, eL, s, hp⟩
    exact q H' L acc s hL eL el hp
def kR3 (R : It → Hp → Prop) : List V → Hp → Prop := fun vs H1 => ∃ (i j c : Int) (n : Nat), vs = [.int i, .int j, .int c] ∧ RgC i j c n ∧ R (Itc i c n) H1
theorem r_irng3 {ta : TA} {σ : L2.St} {H : Hp} {R : It → Hp → Prop} (h : ta σ H (kR3 R)) : iRng3 ta σ H R := h
theorem r_kR3 {i j c : Int} {n : Nat} {H : Hp} {R : It → Hp → Prop} (hr : RgC i j c n) (h : R (Itc i c n) H) : kR3 R [.int i, .int j, .int c] H := ⟨i, j, c, n, rfl, hr, h⟩
/-- in a comprehension: the frame is named from outside -/
theorem sl_listK {X : Cx} {K : PySem.W.Frag} (h : X.K = K) : SlR X (rSlL K) := by subst h; exact sl_list

/-- [f i for i in range if b i] -/
theorem r_lcFX {lo : Int} {n slot : Nat} {vs : List Nat} {tt : TT} {te : TE} {σ : L2.St} {H : Hp} {Q : V → Hp → Prop} (b : Nat → Bool) (f : Nat → Int) (hn : n ≤ 100000) (hv : vs = [slot])
    (ht : ∀ (i : Nat) (H' : Hp), i < n → L2.Same H H' → ∀ R : Bool → Hp → Prop, R (b i) H' → tt ((wipe σ vs).set slot (some (.int (lo + i)))) H' R)
    (he : ∀ (i : Nat) (H' : Hp), i < n → L2.Same H H' → ∀ R : V → Hp → Prop, R (.int (f i)) H' → te ((wipe σ vs).set slot (some (.int (lo + i)))) H' R)
    (q : ∀ (H' : Hp) (l : Addr), L2.Same H H' → H l = none → H' l = some (.lst ((((List.range n).filter b).map f).map V.int)) → Q (.ref l) H') :
    kLc (gName slot) tt te vs σ Q (Itr lo n) H := by
  intro L hL
  have hw : ∀ (τ : L2.St) (x : V), wipe (τ.set slot (some x)) [slot] = wipe τ [slot] := fun τ x => by simp [wipe, List.set_set]
  have hw2 : wipe (wipe σ vs) vs = wipe σ vs := by subst hv; simp [wipe, List.set_set]
  refine lc_range (fun i H' => H' L = some (.lst ((((List.range i).filter b).map f).map V.int)) ∧ L2.Same H H') ⟨upd_same, fun b o e => by rw [upd_ne (ne_of_none e hL)]; exact e⟩ ?_ ?_
  · rintro i H' hi ⟨eL, s⟩
    refine ⟨?_, ?_⟩
    · subst hv
      rw [hw]
      exact hw2
    · show tt ((wipe σ vs).set slot (some (.int (lo + i)))) H' _
      refine ht i H' hi s _ ?_
      refine to_ite (fun hb => ?_) (fun hb => ?_)
      · refine he i H' hi s _ ⟨_, eL, ?_, ?_, fun b o e => by rw [upd_ne (ne_of_none e hL)]; exact s _ _ e⟩
        · rw [List.length_map, List.length_map, sz]
          have := List.length_filter_le b (List.range i)
          rw [List.length_range] at this
          omega
        · rw [upd_same, List.range_succ, List.filter_append, List.filter_cons, if_pos hb, List.filter_nil, List.map_append, List.map_append]
          rfl
      · refine ⟨?_, s⟩
        rw [List.range_succ, List.filter_append, List.filter_cons, if_neg (by simpa using hb), List.filter_nil, List.append_nil]
        exact eL
  · rintro H' ⟨eL, s⟩
    exact q H' L s hL eL

local macro_rules | `(tactic| walk_at "rx1") => `(tactic| with_reducible (first | refine' Sg.r_prop ?_ | (refine' Sg.r_kprop ?h ?_; (case h => (with_unfolding_all walk_at "hp"))) | refine' Sg.r_irev ?_ | (refine' Sg.r_kIv ?h ?_; (case h => (with_unfolding_all walk_at "hp"))) | refine' Sg.r_makeN ?_ | refine' Sg.r_callN ?_ | refine' Sg.r_makeSD ?_ | refine' Sg.r_callSD ?_ | refine' Sg.r_methSD ?_ | (refine' Sg.r_kmethSD ?h ?hl ?_; (case h => (with_unfolding_all walk_at "hp")); (case hl => (with_unfolding_all walk_at "lk"))) | refine' Sg.r_tryA ?_ | refine' Sg.r_din ?_ | refine' Sg.r_kdi ?_ | (refine' Sg.r_kdi2 ?h ?_; (case h => (with_unfolding_all walk_at "hp"))) | (refine' Sg.r_kdi2f ?h ?_; (case h => assumption)) | refine' Sg.r_dnotin ?_ | refine' Sg.r_kdn ?_ | (refine' Sg.r_kdn2 ?h ?_; (case h => (with_unfolding_all walk_at "hp"))) | refine' Sg.r_dget ?_ | refine' Sg.r_kdg ?_ | refine' Sg.r_dget1 ?_ | (refine' Sg.r_kdt ?h ?_; (case h => (with_unfolding_all walk_at "hp"))) | (refine' Sg.r_kdt2 ?h ?_; (case h => (with_unfolding_all walk_at "hp"))) | refine' Sg.r_dput ?_ | refine' Sg.r_kdp ?_ | refine' Sg.r_kdp2 ?_ | (refine' Sg.r_kdp3 ?h ?hl ?_; (case h => (with_unfolding_all walk_at "hp")); (case hl => (with_unfolding_all walk_at "side")); (with_unfolding_all walk_at "up")) | refine' Sg.r_ddel ?_ | refine' Sg.r_kdd ?_ | refine' Sg.r_dpop1 ?_ | (refine' Sg.r_kdo ?h ?_; (case h => (with_unfolding_all walk_at "hp"))) | refine' Sg.r_ikeys ?_ | (refine' Sg.r_kIk ?h ?_; (case h => assumption)) | (refine' Sg.r_dnew ?_; (with_unfolding_all walk_at "al")) | (refine' Sg.r_lenD ?h ?_; (case h => (with_unfolding_all walk_at "hp"))) | (refine' Sg.r_dictD ?h ?_; (case h => (with_unfolding_all walk_at "hp")); (with_unfolding_all walk_at "al"))))
local macro_rules | `(tactic| walk_at "rx") => `(tactic| repeat (first | walk_at "rd1" | walk_at "rx1"))
/-! ### live addresses -/
def Va (L : Lay) (a : Int) : Prop := a = 0 ∨ (2 * L.reg ≤ a ∧ a < L.dev)
def InW (W : LgM) (a : Int) : Prop := a ∈ W.present ∨ ∃ tb, some tb ∈ W.slots ∧ a ∈ tb
def IsLive (W : LgM) (ns : List Int) : Prop := ns.Pairwise (· < ·) ∧ ∀ a, a ∈ ns ↔ (InW W a ∧ a ≠ 0)
/-- a sorted list is known by what it holds -/
theorem sorted_uniq : ∀ {xs ys : List Int}, xs.Pairwise (· < ·) → ys.Pairwise (· < ·) → (∀ a, a ∈ xs ↔ a ∈ ys) → xs = ys
  | [], [], _, _, _ => rfl
  | [], y :: ys, _, _, h => by have := (h y).mpr (List.mem_cons_self ..); cases this
  | x :: xs, [], _, _, h => by have := (h x).mp (List.mem_cons_self ..); cases this
  | x :: xs, y :: ys, hx, hy, h => by
    obtain ⟨x1, x2⟩ := List.pairwise_cons.mp hx
    obtain ⟨y1, y2⟩ := List.pairwise_cons.mp hy
    have e : x = y := by
      rcases List.mem_cons.mp ((h x).mp (List.mem_cons_self ..)) with e | e
      · exact e
      · rcases List.mem_cons.mp ((h y).mpr (List.mem_cons_self ..)) with e' | e'
        · exact e'.symm
        · have a := y1 x e
          have b := x1 y e'
          omega
    subst e
    rw [sorted_uniq x2 y2 fun a => ⟨fun m => ?_, fun m => ?_⟩]
    · rcases List.mem_cons.mp ((h a).mp (List.mem_cons_of_mem _ m)) with e | e
      · have := x1 a m
        omega
      · exact e
    · rcases List.mem_cons.mp ((h a).mpr (List.mem_cons_of_mem _ m)) with e | e
      · have := y1 a m
        omega
      · exact e
theorem live_uniq {W : LgM} {xs ys : List Int} (hx : IsLive W xs) (hy : IsLive W ys) : xs = ys := sorted_uniq hx.1 hy.1 fun a => (hx.2 a).trans (hy.2 a).symm
theorem r_sortSO {w : World} {H : Hp} {a : Addr} {S : Int → Bool} {n : Nat} {Q : V → Hp → Prop} (h : H a = some (SetO w a S n)) (hn : n ≤ 1000000) (q : ∀ (H' : Hp) (p : Addr) (ns : List Int), Same H H' → H p = none → H' p = some (.lst (ns.map V.int)) → ns.Pairwise (· < ·) → (∀ k : Int, k ∈ ns ↔ S k = true) → ns.length = n → Q (.ref p) H') : rSortSO w [.ref a] H Q :=
  ⟨a, S, n, rfl, h, hn, fun ns p h1 h2 h3 np => q _ p ns (Same.of_new rfl np) np upd_same h1 h2 h3⟩
def sp_live_addresses (w : World) (K : PySem.W.Frag) (C CD CC CL : Addr) : Sp := fun args_ H Q _ => ∃ (G : Hp) (g : Addr) (u : LU) (W : LgM) (L : Lay), args_ = [.ref g] ∧ LogQ K C CD CC CL L G H g u W ∧ Same G H ∧ LayC L ∧ WOk L W ∧ ∀ H' l ns, Same H H' → H l = none → H' l = some (.lst (ns.map V.int)) → IsLive W ns → Q (.ref l) H'
theorem i_live_addresses {w : World} {K : PySem.W.Frag} {C CD CC CL : Addr} {args_ : List V} {H : Hp} {Q : V → Hp → Prop} {E : XK} {G : Hp} {g : Addr} {u : LU} {W : LgM} {L : Lay} (ev : args_ = [.ref g]) (hQ : LogQ K C CD CC CL L G H g u W) (hG : Same G H) (hC : LayC L) (hW : WOk L W) (q : ∀ H' l ns, Same H H' → H l = none → H' l = some (.lst (ns.map V.int)) → IsLive W ns → Q (.ref l) H') : sp_live_addresses w K C CD CC CL args_ H Q E := ⟨G, g, u, W, L, ev, hQ, hG, hC, hW, q⟩
local macro_rules | `(tactic| walk_at "ca1") => `(tactic| with_reducible (refine' Sg.i_live_addresses ?ev ?hQ ?hG ?hC ?hW ?_; (case ev => (with_unfolding_all rfl)); (case hQ => (with_unfolding_all walk_at "pr")); (case hG => (with_unfolding_all walk_at "pr")); (case hC => (with_unfolding_all walk_at "pr")); (case hW => (with_unfolding_all walk_at "pr")); intros))

theorem ok_live_addresses (T : Txt K mg) : FnOk P w K mg base CX0 1 T.a_live_addresses T.fd_live_addresses ["log"] (sp_live_addresses w K T.A_Log T.A_Device T.A_Counts T.A_Layout) := by
  refine T.F_live_addresses.ok sc_live_addresses (fun vs H Q E h => ?_) (fun cdv A outer s H vs Q E hr h => ?_)
  · obtain ⟨G, g, u, W, L, rfl, _⟩ := h
    rfl
  · refine ⟨_, (pss_cons (ps_set (i := 1) sc_live_addresses.nd rfl (Or.inl rfl) (pe_callTy c_list (by rfl) T.n_list (by decide +kernel) (pa_cons (pe_fld (pv 0) rfl) pa_nil)))
       (pss_cons (ps_for PassesOwn.never rfl (pi_list (pe_fld (pv 0) rfl)) (pg_name (i := 2) sc_live_addresses.nd rfl (Or.inl rfl))
       (pss_one (ps_if (pt_cmp (pc_notN (pv 2)) rfl)
       (pss_one (ps_expr (pe_bm PySem.F.plainAttrs_list PySem.F.slot_list_extend PySem.F.type_list_extend mt_extend (pv 1) (pa_cons (pv 2) pa_nil))))
       pss_nil)))
       (pss_one (ps_ret (pe_callB (c_sortSO rfl) (by rfl) T.n_sorted (by decide +kernel) (pa_cons (pe_si (own := [("address", 3)]) (g := gName 3)  rfl sc_live_addresses.nd (pi_list (pv 1)) (blkOk_by (own := [("address", 3)]) (N := n_live_addresses) (sc := defScope s_live_addresses) (by decide +kernel)) (fun _ _ _ _ _ => pg_name (i := 3) sc_live_addresses.nd rfl (Or.inl rfl)) (fun _ _ _ _ _ => pts_one (pt_cmpR op_ne (pv 3) pe_int (nomark _))) (fun _ _ _ _ _ => (pv 3))) pa_nil)))))), ?_⟩
    try dsimp only [cxOf, Cx.nox, Cx.wish]
    obtain ⟨G, g, u, W, L, rfl, hQ, hG, hC, hW, q⟩ := h
    have cl_Log := T.cl_Log
    have na_Log_present := T.na_Log_present
    have na_Log_slots := T.na_Log_slots
    obtain ⟨dx, fs, hg, F⟩ := hQ.obj
    have l1 := F.pr
    have l2 := F.sl
    have hpr := hG _ _ hQ.sta.pr
    have hsl := hG _ _ hQ.sta.sl
    have hss := hQ.sta.sls.mono hG
    have c0 := hC.l0
    have c1 := hC.l1
    have pl := hW.pl
    walk_at "go"
    rename_i p np H1 s1 g1
    have hsl1 := s1 _ _ hsl
    have hg1 := s1 _ _ hg
    walk_at "go"
    refine r_forL (xs := u.vs) (fun i σ' H' => ∃ (v2 : Option V) (acc : List Int), σ' = [some (.ref g), some (.ref p), v2, none] ∧ Same H H' ∧ H' p = some (.lst (acc.map V.int)) ∧ acc.length ≤ 466 * (i + 1) ∧ ∀ a, a ∈ acc ↔ (a ∈ W.present ∨ ∃ tb, some tb ∈ W.slots.take i ∧ a ∈ tb)) ⟨_, W.present, rfl, s1, g1, by omega, fun a => ⟨.inl, fun z => z.elim id fun ⟨tb, m, _⟩ => by cases m⟩⟩ (fun i σ' H' _ ⟨_, _, _, s, _⟩ => .of (s _ _ hsl)) ?_ ?_
    · rintro i x σ' H2 hx ⟨v2, acc, rfl, s2, g2, la, ha⟩
      obtain ⟨o, eo, hi⟩ := paired_at hss hx
      have et : W.slots.take (i + 1) = W.slots.take i ++ [o] := by rw [List.take_add_one, eo]; rfl
      have hil := (List.getElem?_eq_some_iff.mp eo).1
      have i3 : i < 3 := by rw [hW.sl] at hil; exact hil
      cases o with
      | none =>
        cases hi
        walk_at "go"
        refine ⟨_, acc, rfl, s2, g2, by omega, fun a => ?_⟩
        rw [ha, et]
        simp
      | some tb =>
        obtain ⟨y, rfl, hy⟩ := hi
        have hy2 := s2 _ _ hy
        have ln := hW.st tb (List.mem_of_getElem? eo)
        walk_at "go"
        refine r_ext g2 hy2 (by rw [List.length_map, List.length_map]; omega) ?_
        generalize hH3 : upd H2 _ _ = H3
        rw [← List.map_append] at hH3
        refine ⟨_, acc ++ tb, rfl, Sg.Same.old s2 np hH3, Sg.at_new hH3, by rw [List.length_append]; omega, fun a => ?_⟩
        rw [List.mem_append, ha, et]
        constructor
        · rintro ((m | ⟨t, m, k⟩) | m)
          · exact .inl m
          · exact .inr ⟨t, List.mem_append_left _ m, k⟩
          · exact .inr ⟨tb, List.mem_append_right _ (List.mem_cons_self ..), m⟩
        · rintro (m | ⟨t, m, k⟩)
          · exact .inl (.inl m)
          · rcases List.mem_append.mp m with m | m
            · exact .inl (.inr ⟨t, m, k⟩)
            · have e := List.mem_singleton.mp m
              cases e
              exact .inr k
    · rintro σ' H2 ⟨v2, acc, rfl, s2, g2, la, ha⟩
      have vl : u.vs.length = 3 := by rw [Paired.length hss]; exact hW.sl
      rw [vl] at la ha
      have e3 : W.slots.take 3 = W.slots := List.take_of_length_le (by rw [hW.sl]; exact Nat.le_refl 3)
      rw [e3] at ha
      walk_at "go"
      refine r_si ?_
      walk_at "go"
      refine r_siL (fun i => if acc.getD i 0 = 0 then none else some (acc.getD i 0)) (.of g2) (by rw [List.length_map]; omega) rfl (fun i x H' hx s' R hR => ?_) (fun H' D S n s' nD gD hn hS => ?_)
      · rw [List.getElem?_map] at hx
        obtain ⟨z, hz, rfl⟩ := Option.map_eq_some_iff.mp hx
        have ez : acc.getD i 0 = z := by rw [List.getD_eq_getElem?_getD, hz]; rfl
        walk_at "go"
        refine to_ite (fun c => ?_) (fun c => ?_)
        · have c' : ¬ z = 0 := by simpa using c
          walk_at "go"
          refine ⟨z, rfl, ?_⟩
          have := hR _ (Same.refl _)
          rw [ez, if_neg c'] at this
          exact this
        · have c' : z = 0 := by simpa using c
          have := hR _ (Same.refl _)
          rw [ez, if_pos c'] at this
          exact this
      · walk_at "go"
        refine r_sortSO gD (by rw [List.length_map] at hn; omega) (fun H3 l ns s3 nl gl hp hm hl => ?_)
        refine q _ _ ns (s2.trans (s'.trans s3)) ((s2.trans s').free nl) gl ⟨hp, fun a => ?_⟩
        rw [hm, hS, List.length_map]
        constructor
        · rintro ⟨i, hi, e⟩
          by_cases c : acc.getD i 0 = 0
          · rw [if_pos c] at e
            cases e
          · rw [if_neg c] at e
            cases e
            refine ⟨(ha _).mp ?_, c⟩
            rw [List.getD_eq_getElem?_getD, List.getElem?_eq_getElem hi]
            exact List.getElem_mem hi
        · rintro ⟨m, c⟩
          obtain ⟨i, hi, e⟩ := List.getElem_of_mem ((ha a).mpr m)
          have e' : acc.getD i 0 = a := by rw [List.getD_eq_getElem?_getD, List.getElem?_eq_getElem hi]; exact e
          refine ⟨i, hi, ?_⟩
          rw [e', if_neg c]
/-- the segment of an address, or None for one of a region -/
def sp_segment_of (CL : Addr) : Sp := fun args_ H Q _ => ∃ (p : Addr) (L : Lay) (a : Int), args_ = [.ref p, .int a] ∧ LayAt CL L H p ∧ LayC L ∧ ((2 * L.reg ≤ a ∧ a < L.dev ∧ Q (.int ((a - 2 * L.reg) / L.blk)) H) ∨ (0 ≤ a ∧ a < 2 * L.reg ∧ Q .non H))
theorem i_segment_of {CL : Addr} {args_ : List V} {H : Hp} {Q : V → Hp → Prop} {E : XK} {p : Addr} {L : Lay} {a : Int} (ev : args_ = [.ref p, .int a]) (hL : LayAt CL L H p) (hC : LayC L) (a0 : 2 * L.reg ≤ a) (a1 : a < L.dev) (q : Q (.int ((a - 2 * L.reg) / L.blk)) H) : sp_segment_of CL args_ H Q E := ⟨p, L, a, ev, hL, hC, .inl ⟨a0, a1, q⟩⟩
theorem i_segment_non {CL : Addr} {args_ : List V} {H : Hp} {Q : V → Hp → Prop} {E : XK} {p : Addr} {L : Lay} {a : Int} (ev : args_ = [.ref p, .int a]) (hL : LayAt CL L H p) (hC : LayC L) (a0 : 0 ≤ a) (a1 : a < 2 * L.reg) (q : Q .non H) : sp_segment_of CL args_ H Q E := ⟨p, L, a, ev, hL, hC, .inr ⟨a0, a1, q⟩⟩
local macro_rules | `(tactic| walk_at "ca1") => `(tactic| with_reducible (refine' Sg.i_segment_of ?ev ?hL ?hC ?a0 ?a1 ?_; (case ev => (with_unfolding_all rfl)); (case hL => (with_unfolding_all walk_at "pr")); (case hC => (with_unfolding_all walk_at "pr")); (case a0 => (with_unfolding_all walk_at "pr")); (case a1 => (with_unfolding_all walk_at "pr"))))
theorem ok_segment_of (T : Txt K mg) : FnOk P w K mg base CX0 1 T.a_segment_of T.fd_segment_of ["layout", "address"] (sp_segment_of T.A_Layout) := by
  refine T.F_segment_of.ok sc_segment_of (fun vs H Q E h => ?_) (fun cdv A outer s H vs Q E hr h => ?_)
  · obtain ⟨p, L, a, rfl, _⟩ := h
    rfl
  · refine ⟨_, (pss_cons (ps_set (i := 2) sc_segment_of.nd rfl (Or.inl rfl) (pe_op op_mul pe_int (pe_fld (pv 0) rfl)))
       (pss_cons (ps_if (pt_not (pt_chain op_le op_lt (pv 2) (pv 1) (pe_fld (pv 0) rfl)))
       (pss_one (ps_ret pe_non))
       pss_nil)
       (pss_one (ps_ret (pe_op op_fdiv (pe_op op_sub (pv 1) (pv 2)) (pe_fld (pv 0) rfl)))))), ?_⟩
    try dsimp only [cxOf, Cx.nox, Cx.wish]
    obtain ⟨p, L, a, rfl, hL, hC, q⟩ := h
    obtain ⟨dx, fs, hp, F⟩ := id hL
    have l1 := F.reg
    have l2 := F.blk
    have l3 := F.dev
    have b0 := hC.b0
    have b1 := hC.b1
    have cl0 := T.cl_Layout
    have na0 := T.na_Layout_region_blocks
    have na1 := T.na_Layout_segment_blocks
    have na2 := T.na_Layout_device_blocks
    rcases q with ⟨a0, a1, q⟩ | ⟨a0, a1, q⟩
    · walk_at "go"
      exact q
    · walk_at "go"
      exact q
def sp_region_start (CL : Addr) : Sp := fun args_ H Q _ => ∃ (p : Addr) (L : Lay) (r : Int), args_ = [.ref p, .int r] ∧ LayAt CL L H p ∧ 0 ≤ r ∧ r ≤ 1 ∧ Q (.int (r * L.reg)) H
theorem i_region_start {CL : Addr} {args_ : List V} {H : Hp} {Q : V → Hp → Prop} {E : XK} {p : Addr} {L : Lay} {r : Int} (ev : args_ = [.ref p, .int r]) (hL : LayAt CL L H p) (r0 : 0 ≤ r) (r1 : r ≤ 1) (q : Q (.int (r * L.reg)) H) : sp_region_start CL args_ H Q E := ⟨p, L, r, ev, hL, r0, r1, q⟩
local macro_rules | `(tactic| walk_at "ca1") => `(tactic| with_reducible (refine' Sg.i_region_start ?ev ?hL ?r0 ?r1 ?_; (case ev => (with_unfolding_all rfl)); (case hL => (with_unfolding_all walk_at "pr")); (case r0 => (with_unfolding_all walk_at "pr")); (case r1 => (with_unfolding_all walk_at "pr"))))

theorem ok_region_start (T : Txt K mg) : FnOk P w K mg base CX0 1 T.a_region_start T.fd_region_start ["layout", "region"] (sp_region_start T.A_Layout) := by
  refine T.F_region_start.ok sc_region_start (fun vs H Q E h => ?_) (fun cdv A outer s H vs Q E hr h => ?_)
  · obtain ⟨p, L, r, rfl, _⟩ := h
    rfl
  · refine ⟨_, (pss_one (ps_ret (pe_op op_mul (pv 1) (pe_fld (pv 0) rfl)))), ?_⟩
    try dsimp only [cxOf, Cx.nox, Cx.wish]
    obtain ⟨p, L, r, rfl, hL, r0, r1, q⟩ := h
    have cl_Layout := T.cl_Layout
    have na_Layout_region_blocks := T.na_Layout_region_blocks
    obtain ⟨dx, fs, hp, F⟩ := id hL
    have l1 := F.reg
    walk_at "go"
    exact q
def slotN (L : Lay) : Option (List Int) → List Int
  | none => List.replicate (L.last + 1).toNat 0
  | some ns => 1 :: ns.drop 1
def sp_slot_numbers (K : PySem.W.Frag) (CL : Addr) : Sp := fun args_ H Q _ => ∃ (p : Addr) (L : Lay) (v : V) (o : Option (List Int)), args_ = [.ref p, v] ∧ LayAt CL L H p ∧ LayC L ∧ SlotIs H v o ∧ (∀ ns, o = some ns → ns.length ≤ 466) ∧ ∀ H' l, Same H H' → H l = none → H' l = some (.lst ((slotN L o).map V.int)) → Q (.ref l) H'
theorem i_slot_numbers {K : PySem.W.Frag} {CL : Addr} {args_ : List V} {H : Hp} {Q : V → Hp → Prop} {E : XK} {p : Addr} {L : Lay} {v : V} {o : Option (List Int)} (ev : args_ = [.ref p, v]) (hL : LayAt CL L H p) (hC : LayC L) (hv : SlotIs H v o) (hl : (∀ ns, o = some ns → ns.length ≤ 466)) (q : ∀ H' l, Same H H' → H l = none → H' l = some (.lst ((slotN L o).map V.int)) → Q (.ref l) H') : sp_slot_numbers K CL args_ H Q E := ⟨p, L, v, o, ev, hL, hC, hv, hl, q⟩
local macro_rules | `(tactic| walk_at "ca1") => `(tactic| with_reducible (refine' Sg.i_slot_numbers ?ev ?hL ?hC ?hv ?hl ?_; (case ev => (with_unfolding_all rfl)); (case hL => (with_unfolding_all walk_at "pr")); (case hC => (with_unfolding_all walk_at "pr")); (case hv => (with_unfolding_all walk_at "pr")); (case hl => (with_unfolding_all walk_at "pr")); intros))

theorem ok_slot_numbers (T : Txt K mg) : FnOk P w K mg base CX0 1 T.a_slot_numbers T.fd_slot_numbers ["layout", "slot"] (sp_slot_numbers K T.A_Layout) := by
  refine T.F_slot_numbers.ok sc_slot_numbers (fun vs H Q E h => ?_) (fun cdv A outer s H vs Q E hr h => ?_)
  · obtain ⟨p, L, v, o, rfl, _⟩ := h
    rfl
  · refine ⟨_, (pss_cons (ps_if (pt_cmp (pc_isN (pv 1)) rfl)
       (pss_one (ps_ret (pe_op op_rep (pe_lst (pa_cons pe_int pa_nil)) (pe_op op_add (pe_fld (pv 0) rfl) pe_int))))
       pss_nil)
       (pss_one (ps_ret (pe_op op_cat (pe_lst (pa_cons pe_int pa_nil)) (pe_slice sl_list (pv 1) (po_some pe_int) po_none))))), ?_⟩
    try dsimp only [cxOf, Cx.nox, Cx.wish]
    obtain ⟨p, L, v, o, rfl, hL, hC, hv, hl, q⟩ := h
    have cl_Layout := T.cl_Layout
    have na_Layout_last_id := T.na_Layout_last_id
    obtain ⟨dx, fs, hp, F⟩ := id hL
    have l1 := F.last
    have c0 := hC.l0
    have c1 := hC.l1
    cases o with
    | none =>
      cases hv
      walk_at "go"
      rename_i p1 n1 H1 s1 g1 p2 n2 H2 s2 g2
      exact q _ _ (s1.trans s2) (s1.free n2) (by rw [g2, slotN, List.map_replicate])
    | some ns =>
      obtain ⟨y, rfl, hy⟩ := hv
      have ln := hl ns rfl
      walk_at "go"
      rename_i p1 n1 H1 s1 g1 H2 p2 s2 n2 g2
      refine r_catI (xs := [1]) (s2 _ _ g1) g2 rfl AreI.map (by rw [List.length_drop, List.length_singleton]; omega) (fun H3 r s3 n3 g3 => ?_)
      exact q _ _ (s1.trans (s2.trans s3)) ((s1.trans s2).free n3) g3
def sp_filled (K : PySem.W.Frag) : Sp := fun args_ H Q _ => ∃ (a : Addr) (ns : List Int) (c : Int), args_ = [.ref a, .int c] ∧ SqL K H a (ns.map V.int) ∧ ns.length ≤ 100000 ∧ 0 ≤ c ∧ c ≤ 100000 ∧ ∀ H' l, Same H H' → H l = none → H' l = some (.lst ((filI ns c.toNat).map V.int)) → Q (.ref l) H'
theorem i_filled {K : PySem.W.Frag} {args_ : List V} {H : Hp} {Q : V → Hp → Prop} {E : XK} {a : Addr} {ns : List Int} {c : Int} (ev : args_ = [.ref a, .int c]) (h : SqL K H a (ns.map V.int)) (hl : ns.length ≤ 100000) (c0 : 0 ≤ c) (c1 : c ≤ 100000) (q : ∀ H' l, Same H H' → H l = none → H' l = some (.lst ((filI ns c.toNat).map V.int)) → Q (.ref l) H') : sp_filled K args_ H Q E := ⟨a, ns, c, ev, h, hl, c0, c1, q⟩
local macro_rules | `(tactic| walk_at "ca1") => `(tactic| with_reducible (refine' Sg.i_filled ?ev ?h ?hl ?c0 ?c1 ?_; (case ev => (with_unfolding_all rfl)); (case h => (with_unfolding_all walk_at "pr")); (case hl => (with_unfolding_all walk_at "pr")); (case c0 => (with_unfolding_all walk_at "pr")); (case c1 => (with_unfolding_all walk_at "pr")); intros))

theorem ok_filled (T : Txt K mg) : FnOk P w K mg base CX0 1 T.a_filled T.fd_filled ["numbers", "count"] (sp_filled K) := by
  refine T.F_filled.ok sc_filled (fun vs H Q E h => ?_) (fun cdv A outer s H vs Q E hr h => ?_)
  · obtain ⟨a, ns, c, rfl, _⟩ := h
    rfl
  · refine ⟨_, (pss_one (ps_ret (pe_slice sl_list (pe_op op_cat (pe_callTy c_list (by rfl) T.n_list (by decide +kernel) (pa_cons (pv 0) pa_nil)) (pe_op op_rep (pe_lst (pa_cons pe_int pa_nil)) (pv 1))) po_none (po_some (pv 1))))), ?_⟩
    try dsimp only [cxOf, Cx.nox, Cx.wish]
    obtain ⟨a, ns, c, rfl, h, hl, c0, c1, q⟩ := h
    walk_at "go"
    rename_i l1 n1 H1 s1 g1 l2 n2 H2 s2 g2 l3 n3 H3 s3 g3 l4 n4 H4 s4 g4 H5 l5 s5 n5 g5
    exact q _ _ (s1.trans (s2.trans (s3.trans (s4.trans s5)))) ((s1.trans (s2.trans (s3.trans s4))).free n5) (by rw [g5, filI])
def sp_pieces (K : PySem.W.Frag) : Sp := fun args_ H Q _ => ∃ (a : Addr) (ns : List Int) (c : Int) (n : Nat), args_ = [.ref a, .int c] ∧ SqL K H a (ns.map V.int) ∧ RgC 0 ns.length c n ∧ n ≤ 1000 ∧ 0 ≤ c ∧ ∀ (H' : Hp) (l : Addr) (rs : List Addr), Same H H' → H l = none → H' l = some (.lst (rs.map V.ref)) → rs.length = n → (∀ i r, rs[i]? = some r → H r = none ∧ H' r = some (.lst (((ns.drop (i * c.toNat)).take c.toNat).map V.int))) → Q (.ref l) H'
theorem i_pieces {K : PySem.W.Frag} {args_ : List V} {H : Hp} {Q : V → Hp → Prop} {E : XK} {a : Addr} {ns : List Int} {c : Int} {n : Nat} (ev : args_ = [.ref a, .int c]) (h : SqL K H a (ns.map V.int)) (hr : RgC 0 ns.length c n) (hn : n ≤ 1000) (hc : 0 ≤ c) (q : ∀ (H' : Hp) (l : Addr) (rs : List Addr), Same H H' → H l = none → H' l = some (.lst (rs.map V.ref)) → rs.length = n → (∀ i r, rs[i]? = some r → H r = none ∧ H' r = some (.lst (((ns.drop (i * c.toNat)).take c.toNat).map V.int))) → Q (.ref l) H') : sp_pieces K args_ H Q E := ⟨a, ns, c, n, ev, h, hr, hn, hc, q⟩
local macro_rules | `(tactic| walk_at "ca1") => `(tactic| with_reducible (refine' Sg.i_pieces ?ev ?h ?hr ?hn ?hc ?_; (case ev => (with_unfolding_all rfl)); (case h => (with_unfolding_all walk_at "pr")); (case hr => (with_unfolding_all walk_at "pr")); (case hn => (with_unfolding_all walk_at "pr")); (case hc => (with_unfolding_all walk_at "pr")); intros))

theorem ok_pieces (T : Txt K mg) : FnOk P w K mg base CX0 1 T.a_pieces T.fd_pieces ["numbers", "size"] (sp_pieces K) := by
  refine T.F_pieces.ok sc_pieces (fun vs H Q E h => ?_) (fun cdv A outer s H vs Q E hr h => ?_)
  · obtain ⟨a, ns, c, n, rfl, _⟩ := h
    rfl
  · refine ⟨_, (pss_one (ps_ret (pe_lc (own := [("start", 2)]) (g := gName 2) (tt := tYes) rfl sc_pieces.nd (pi_range3 rfl T.n_range (pa_cons pe_int (pa_cons (pe_callB (c_len) (by rfl) T.n_len (by decide +kernel) (pa_cons (pv 0) pa_nil)) (pa_cons (pv 1) pa_nil)))) (blkOk_by (own := [("start", 2)]) (N := n_pieces) (sc := defScope s_pieces) (by decide +kernel)) (fun _ _ _ _ _ => pg_name (i := 2) sc_pieces.nd rfl (Or.inl rfl)) (fun _ _ _ _ _ => pts_nil) (fun _ _ _ _ _ => (pe_slice (sl_listK (K := K) rfl) (pv 0) (po_some (pv 2)) (po_some (pe_op op_add (pv 2) (pv 1)))))))), ?_⟩
    try dsimp only [cxOf, Cx.nox, Cx.wish]
    obtain ⟨a, ns, c, n, rfl, h, hr, hn, hc, q⟩ := h
    walk_at "go"
    refine r_irng3 ?_
    walk_at "go"
    rw [List.length_map]
    refine r_kR3 hr ?_
    refine r_lcFn walk_rangeC (fun i acc H' => ∃ rs : List Addr, acc = rs.map V.ref ∧ rs.length = i ∧ ∀ j r, rs[j]? = some r → H r = none ∧ H' r = some (.lst (((ns.drop (j * c.toNat)).take c.toNat).map V.int))) (by omega) rfl ⟨[], rfl, rfl, fun j r hj => by simp at hj⟩ ?_ ?_
    · intro i acc H0 H1 hi s0 hP s1 R hR
      have h1 := (s0.trans s1).seq h
      walk_at "go"
      rename_i p np H2 s2 g2
      refine hR _ _ s2 fun D d0 d1 => ?_
      obtain ⟨rs, rfl, rl, hrs⟩ := hP
      have pD : p ≠ D := fun z => by rw [z, d1] at np; cases np
      refine ⟨rs ++ [p], by rw [List.map_append]; rfl, by rw [List.length_append, rl]; rfl, fun j r hj => ?_⟩
      rcases Nat.lt_or_ge j rs.length with y | y
      · rw [List.getElem?_append_left y] at hj
        obtain ⟨nr, e⟩ := hrs j r hj
        have rD : r ≠ D := fun z => by rw [z, d0] at e; cases e
        rw [hid_ne rD]
        exact ⟨nr, s2 _ _ (s1 _ _ e)⟩
      · rw [List.getElem?_append_right y] at hj
        have hj1 := (List.getElem?_eq_some_iff.mp hj).1
        have j0 : j - rs.length = 0 := by simpa using hj1
        rw [j0] at hj
        cases hj
        have ic : 0 ≤ (i : Int) * c := Int.mul_nonneg (Int.natCast_nonneg i) hc
        have e1 : ((0 : Int) + (i : Nat) * c).toNat = i * c.toNat := by
          rw [Int.zero_add, Int.toNat_mul (by omega) hc]
          rfl
        have e2 : ((0 : Int) + (i : Nat) * c + c).toNat = i * c.toNat + c.toNat := by
          rw [Int.toNat_add (by omega) hc, e1]
        refine ⟨(s0.trans s1).free np, ?_⟩
        rw [hid_ne pD, g2, cut_both (by omega) (by omega), e1, e2, ← List.map_drop, ← List.map_take, Nat.add_sub_cancel_left]
        rw [show j = i by omega]
    · intro H' l acc s n g al hP
      obtain ⟨rs, rfl, rl, hrs⟩ := hP
      exact q _ _ rs s n g rl fun i r hi => ⟨(hrs i r hi).1, hid_same _ _ (hrs i r hi).2⟩

theorem rgcM {n : Nat} {c : Int} (c0 : 0 < c) (c1 : c ≤ 1000) (hn : n ≤ 1000) : RgC 0 ((n : Int) * c) c n := by
  have h0 : 0 ≤ (n : Int) * c := Int.mul_nonneg (by omega) (by omega)
  have h1 : (n : Int) * c ≤ 1000 * 1000 := Int.mul_le_mul (by omega) c1 (by omega) (by omega)
  have e : Builtin.Range.rangeSize 0 ((n : Int) * c) c = n := by
    rw [PyProof.Rows.rangeSize_pos c0 (by omega)]
    have : (((n : Int) * c + c - 1) / c) = n := by
      rw [show (n : Int) * c + c - 1 = (c - 1) + n * c by omega, Int.add_mul_ediv_right _ _ (by omega), Int.ediv_eq_zero_of_lt (by omega) (by omega), Int.zero_add]
    exact this
  refine ⟨by omega, by omega, ?_, e⟩
  unfold Builtin.Range.small
  rw [e]
  have f : ∀ i : Int, -(2 ^ 62) ≤ i → i < 2 ^ 62 → Builtin.Range.rangeFitsLong i = true := fun i h1 h2 => by
    unfold Builtin.Range.rangeFitsLong
    rw [Bool.and_eq_true, decide_eq_true_iff, decide_eq_true_iff]
    omega
  have f1 := f 0 (by omega) (by omega)
  have f2 := f ((n : Int) * c) (by omega) (by omega)
  have f3 := f c (by omega) (by omega)
  have f4 := f ((n : Int) * c + (c - 1)) (by omega) (by omega)
  have f5 := f (n : Int) (by omega) (by omega)
  simp only [f1, f2, f3, f4, f5, gt_iff_lt, c0, if_true, Bool.or_true, Bool.and_true]
theorem sorted_len : ∀ {xs : List Int} {lo hi : Int}, xs.Pairwise (· < ·) → (∀ a ∈ xs, lo ≤ a ∧ a < hi) → xs.length ≤ (hi - lo).toNat
  | [], _, _, _, _ => Nat.zero_le _
  | x :: xs, lo, hi, h, b => by
    obtain ⟨h1, h2⟩ := List.pairwise_cons.mp h
    obtain ⟨b1, b2⟩ := b x (List.mem_cons_self ..)
    have := sorted_len (lo := x + 1) (hi := hi) h2 fun a ha => ⟨h1 a ha, (b a (List.mem_cons_of_mem _ ha)).2⟩
    rw [List.length_cons]
    omega
theorem r_extI {l b : Addr} {vs us : List V} {xs ys : List Int} {H : Hp} {Q : V → Hp → Prop} (h : H l = some (.lst vs)) (h' : H b = some (.lst us)) (e : AreI vs xs) (e' : AreI us ys) (hz : xs.length + ys.length ≤ 1000000)
    (q : ∀ H', L2.upd H l (.lst ((xs ++ ys).map V.int)) = H' → H' l = some (.lst ((xs ++ ys).map V.int)) → Q .non H') : rExtend (.ref l) [.ref b] H Q := by
  rw [AreI] at e e'
  subst e e'
  refine r_ext h h' (by rw [List.length_map, List.length_map]; exact hz) ?_
  rw [← List.map_append]
  exact q _ rfl upd_same
def keptL (L : Lay) (W : LgM) (ns : List Int) : List Int := ns.map (fun a => (a - 2 * L.reg) / L.blk) ++ [W.head] ++ W.queue
def freeL (L : Lay) (W : LgM) (ns : List Int) : List Int := ((List.range L.seg.toNat).filter fun i : Nat => !decide ((i : Int) ∈ keptL L W ns)).map fun i : Nat => (i : Int)
/-- all addresses of the tables lie in the segments -/
def VaW (L : Lay) (W : LgM) : Prop := ∀ a, InW W a → Va L a
def sp_segments_to_free (w : World) (K : PySem.W.Frag) (C CD CC CL : Addr) : Sp := fun args_ H Q _ => ∃ (G : Hp) (g : Addr) (u : LU) (W : LgM) (L : Lay), args_ = [.ref g] ∧ LogQ K C CD CC CL L G H g u W ∧ Frm (mutL g u) G H ∧ LayC L ∧ WOk L W ∧ VaW L W ∧ W.queue.length ≤ 1000 ∧ ∀ H' l ns, Same H H' → H l = none → H' l = some (.lst ((freeL L W ns).map V.int)) → IsLive W ns → Q (.ref l) H'
theorem i_segments_to_free {w : World} {K : PySem.W.Frag} {C CD CC CL : Addr} {args_ : List V} {H : Hp} {Q : V → Hp → Prop} {E : XK} {G : Hp} {g : Addr} {u : LU} {W : LgM} {L : Lay} (ev : args_ = [.ref g]) (hQ : LogQ K C CD CC CL L G H g u W) (hF : Frm (mutL g u) G H) (hC : LayC L) (hW : WOk L W) (hV : VaW L W) (hql : W.queue.length ≤ 1000) (q : ∀ H' l ns, Same H H' → H l = none → H' l = some (.lst ((freeL L W ns).map V.int)) → IsLive W ns → Q (.ref l) H') : sp_segments_to_free w K C CD CC CL args_ H Q E := ⟨G, g, u, W, L, ev, hQ, hF, hC, hW, hV, hql, q⟩
local macro_rules | `(tactic| walk_at "ca1") => `(tactic| with_reducible (refine' Sg.i_segments_to_free ?ev ?hQ ?hF ?hC ?hW ?hV ?hql ?_; (case ev => (with_unfolding_all rfl)); (case hQ => (with_unfolding_all walk_at "pr")); (case hF => (with_unfolding_all walk_at "pr")); (case hC => (with_unfolding_all walk_at "pr")); (case hW => (with_unfolding_all walk_at "pr")); (case hV => (with_unfolding_all walk_at "pr")); (case hql => (with_unfolding_all walk_at "pr")); intros))

theorem ok_segments_to_free (T : Txt K mg) : FnOk P w K mg base CX0 2 T.a_segments_to_free T.fd_segments_to_free ["log"] (sp_segments_to_free w K T.A_Log T.A_Device T.A_Counts T.A_Layout) := by
  refine T.F_segments_to_free.ok sc_segments_to_free (fun vs H Q E h => ?_) (fun cdv A outer s H vs Q E hr h => ?_)
  · obtain ⟨G, g, u, W, L, rfl, _⟩ := h
    rfl
  · refine ⟨_, (pss_cons (ps_set (i := 1) sc_segments_to_free.nd rfl (Or.inr rfl) (pe_lc (own := [("address", 2)]) (g := gName 2) (tt := tYes) rfl sc_segments_to_free.nd (pi_list (pe_call (ok_live_addresses T) (hr.mono (by decide)) rfl T.m_live_addresses T.F_live_addresses.kp T.b_live_addresses .nil pass0 (pa_cons (pv 0) pa_nil))) (blkOk_by (own := [("address", 2)]) (N := n_segments_to_free) (sc := defScope s_segments_to_free) (by decide +kernel)) (fun _ _ _ _ _ => pg_name (i := 2) sc_segments_to_free.nd rfl (Or.inl rfl)) (fun _ _ _ _ _ => pts_nil) (fun _ _ _ _ _ => (pe_call (ok_segment_of T) (hr.mono (by decide)) rfl T.m_segment_of T.F_segment_of.kp T.b_segment_of .nil pass0 (pa_cons (pe_fldK K rfl (pv 0) rfl) (pa_cons (pv 2) pa_nil))))))
       (pss_cons (ps_expr (pe_bm PySem.F.plainAttrs_list PySem.F.slot_list_append PySem.F.type_list_append mt_append (pv 1) (pa_cons (pe_fld (pv 0) rfl) pa_nil)))
       (pss_cons (ps_expr (pe_bm PySem.F.plainAttrs_list PySem.F.slot_list_extend PySem.F.type_list_extend mt_extend (pv 1) (pa_cons (pe_fld (pv 0) rfl) pa_nil)))
       (pss_one (ps_ret (pe_lc (own := [("segment", 3)]) (g := gName 3)  rfl sc_segments_to_free.nd (pi_range1 rfl T.n_range (pa_cons (pe_fld (pe_fld (pv 0) rfl) rfl) pa_nil)) (blkOk_by (own := [("segment", 3)]) (N := n_segments_to_free) (sc := defScope s_segments_to_free) (by decide +kernel)) (fun _ _ _ _ _ => pg_name (i := 3) sc_segments_to_free.nd rfl (Or.inl rfl)) (fun _ _ _ _ _ => pts_one (pt_cmpR (op_notIn_seqK K rfl) (pv 3) (pv 1) (by with_unfolding_all rfl))) (fun _ _ _ _ _ => (pv 3)))))))), ?_⟩
    try dsimp only [cxOf, Cx.nox, Cx.wish]
    obtain ⟨G, g, u, W, L, rfl, hQ, hF, hC, hW, hV, hql, q⟩ := h
    have cl_Device := T.cl_Device
    have cl_Layout := T.cl_Layout
    have cl_Log := T.cl_Log
    have na_Device_layout := T.na_Device_layout
    have na_Layout_segments := T.na_Layout_segments
    have na_Log_head := T.na_Log_head
    have na_Log_layout := T.na_Log_layout
    have na_Log_queue := T.na_Log_queue
    have hG := hF.gh
    walk_at "go"
    rename_i H1 lv ns s1 nlv glv hlive
    obtain ⟨dx, fs, hg, F⟩ := hQ.obj
    have l1 := F.lay
    have l2 := F.head
    have l3 := F.qa
    have hg1 := s1 _ _ hg
    have hLy1 := (hQ.sta.lay.mono hG).mono s1
    have b0 := hC.b0
    have s16 := hC.s1
    have s4 := hC.s0
    have d1 := hC.d1
    have r0 := hC.r0
    have nl : ns.length ≤ 1000 := by
      have h1 : ∀ a ∈ ns, 0 ≤ a ∧ a < L.dev := fun a ha => by
        have h := (hlive.2 a).mp ha
        rcases hV a h.1 with e | ⟨e1, e2⟩
        · exact absurd e h.2
        · exact ⟨by omega, e2⟩
      have := sorted_len hlive.1 h1
      omega
    refine r_lcLA (fun i acc H' => acc = (ns.take i).map fun a => V.int ((a - 2 * L.reg) / L.blk)) (.of glv) (by rw [List.length_map]; omega) rfl rfl ?_ ?_
    · intro i x acc H0 H2 hx s0 hp s2 R hR
      rw [List.getElem?_map] at hx
      obtain ⟨z, hz, rfl⟩ := Option.map_eq_some_iff.mp hx
      have hzl := (hlive.2 z).mp (List.mem_of_getElem? hz)
      obtain ⟨v1, v2⟩ : 2 * L.reg ≤ z ∧ z < L.dev := (hV z hzl.1).resolve_left hzl.2
      have hg2 := s2 _ _ (s0 _ _ hg1)
      have hLy2 := (hLy1.mono s0).mono s2
      walk_at "go"
      refine hR _ _ (Same.refl _) fun D d0 d1 => ?_
      rw [hp, List.take_add_one, hz, List.map_append]
      rfl
    intro H2 kp acc s2 nkp gkp al hp
    rw [List.length_map, List.take_length] at hp
    have ek : acc = (ns.map fun a => (a - 2 * L.reg) / L.blk).map V.int := by rw [hp, List.map_map]; rfl
    rw [ek] at gkp
    have hg2 := s2 _ _ hg1
    have hLy2 := hLy1.mono s2
    walk_at "go"
    rename_i H3 e3 g3
    have s3 : Same H1 H3 := Sg.Same.old s2 nkp e3
    have hqa3 := s3 _ _ (s1 _ _ (hG _ _ hQ.sta.qa))
    refine r_extI g3 hqa3 (AreI.app AreI.map (AreI.cons AreI.nil)) AreI.map (by rw [List.length_append, List.length_map]; simp; omega) (fun H4 e4 g4 => ?_)
    have s4 : Same H1 H4 := Sg.Same.old s3 nkp e4
    have hg4 := s4 _ _ hg1
    obtain ⟨dxl, fsl, hl4, Fl⟩ := hLy1.mono s4
    have m1 := Fl.seg
    walk_at "go"
    refine r_lcFX (fun i => !decide ((i : Int) ∈ keptL L W ns)) (fun i => (i : Int)) (by omega) rfl ?_ ?_ ?_
    · intro i H5 hi s5 R hR
      have g5 := s5 _ _ g4
      walk_at "go"
      refine r_in (.inl (.of g5)) rfl (flat_ints _) ?_
      rw [if_pos rfl, inV_ints, Int.zero_add]
      walk_at "go"
      exact hR
    · intro i H5 hi s5 R hR
      walk_at "go"
      rw [Int.zero_add]
      exact hR
    · intro H5 l s5 nl5 gl5
      walk_at "go"
      exact q _ _ _ (s1.trans (s4.trans s5)) ((s1.trans s4).free nl5) gl5 hlive

/-! ### the numbers of a checkpoint -/
def slotsN (L : Lay) (os : List (Option (List Int))) : List Int := os.flatMap (slotN L)
def numsW (L : Lay) (W : LgM) : List Int := W.present.drop 1 ++ slotsN L W.slots ++ [W.head, W.place, (W.queue.length : Int)] ++ filI W.queue L.seg.toNat
def ckN (L : Lay) (W : LgM) : List Int := filI (numsW L W) (L.reg * L.fan).toNat
theorem slotN_len {L : Lay} {o : Option (List Int)} (h : ∀ ns, o = some ns → ns.length = (L.last + 1).toNat) (h0 : 0 ≤ L.last) : (slotN L o).length = (L.last + 1).toNat := by
  cases o with
  | none => exact List.length_replicate ..
  | some ns =>
    have := h ns rfl
    unfold slotN
    rw [List.length_cons, List.length_drop]
    omega
theorem slotsN_len {L : Lay} (h0 : 0 ≤ L.last) : ∀ {os : List (Option (List Int))}, (∀ ns, some ns ∈ os → ns.length = (L.last + 1).toNat) → (slotsN L os).length = os.length * (L.last + 1).toNat
  | [], _ => by simp [slotsN]
  | o :: os, h => by
    have e : slotsN L (o :: os) = slotN L o ++ slotsN L os := rfl
    rw [e, List.length_append, slotN_len (fun ns q => h ns (by rw [q]; exact List.mem_cons_self ..)) h0, slotsN_len h0 fun ns q => h ns (List.mem_cons_of_mem _ q), List.length_cons, Nat.succ_mul]
    omega
def sp_checkpoint_numbers (K : PySem.W.Frag) (C CD CC CL : Addr) : Sp := fun args_ H Q _ => ∃ (G : Hp) (g : Addr) (u : LU) (W : LgM) (L : Lay), args_ = [.ref g] ∧ LogQ K C CD CC CL L G H g u W ∧ Same G H ∧ LayC L ∧ WOk L W ∧ W.queue.length ≤ 1000 ∧ ∀ H' l, Same H H' → H l = none → H' l = some (.lst ((ckN L W).map V.int)) → Q (.ref l) H'
theorem i_checkpoint_numbers {K : PySem.W.Frag} {C CD CC CL : Addr} {args_ : List V} {H : Hp} {Q : V → Hp → Prop} {E : XK} {G : Hp} {g : Addr} {u : LU} {W : LgM} {L : Lay} (ev : args_ = [.ref g]) (hQ : LogQ K C CD CC CL L G H g u W) (hG : Same G H) (hC : LayC L) (hW : WOk L W) (hql : W.queue.length ≤ 1000) (q : ∀ H' l, Same H H' → H l = none → H' l = some (.lst ((ckN L W).map V.int)) → Q (.ref l) H') : sp_checkpoint_numbers K C CD CC CL args_ H Q E := ⟨G, g, u, W, L, ev, hQ, hG, hC, hW, hql, q⟩
local macro_rules | `(tactic| walk_at "ca1") => `(tactic| with_reducible (refine' Sg.i_checkpoint_numbers ?ev ?hQ ?hG ?hC ?hW ?hql ?_; (case ev => (with_unfolding_all rfl)); (case hQ => (with_unfolding_all walk_at "pr")); (case hG => (with_unfolding_all walk_at "pr")); (case hC => (with_unfolding_all walk_at "pr")); (case hW => (with_unfolding_all walk_at "pr")); (case hql => (with_unfolding_all walk_at "pr")); intros))

theorem ok_checkpoint_numbers (T : Txt K mg) : FnOk P w K mg base CX0 2 T.a_checkpoint_numbers T.fd_checkpoint_numbers ["log"] (sp_checkpoint_numbers K T.A_Log T.A_Device T.A_Counts T.A_Layout) := by
  refine T.F_checkpoint_numbers.ok sc_checkpoint_numbers (fun vs H Q E h => ?_) (fun cdv A outer s H vs Q E hr h => ?_)
  · obtain ⟨G, g, u, W, L, rfl, _⟩ := h
    rfl
  · refine ⟨_, (pss_cons (ps_set (i := 1) sc_checkpoint_numbers.nd rfl (Or.inl rfl) (pe_slice sl_list (pe_fld (pv 0) rfl) (po_some pe_int) po_none))
       (pss_cons (ps_for PassesOwn.never rfl (pi_list (pe_fld (pv 0) rfl)) (pg_name (i := 2) sc_checkpoint_numbers.nd rfl (Or.inl rfl))
       (pss_one (ps_expr (pe_bm PySem.F.plainAttrs_list PySem.F.slot_list_extend PySem.F.type_list_extend mt_extend (pv 1) (pa_cons (pe_call (ok_slot_numbers T) (hr.mono (by decide)) rfl T.m_slot_numbers T.F_slot_numbers.kp T.b_slot_numbers .nil pass0 (pa_cons (pe_fld (pv 0) rfl) (pa_cons (pv 2) pa_nil))) pa_nil)))))
       (pss_cons (ps_expr (pe_bm PySem.F.plainAttrs_list PySem.F.slot_list_extend PySem.F.type_list_extend mt_extend (pv 1) (pa_cons (pe_lst (pa_cons (pe_fld (pv 0) rfl) (pa_cons (pe_fld (pv 0) rfl) (pa_cons (pe_callB (c_len) (by rfl) T.n_len (by decide +kernel) (pa_cons (pe_fld (pv 0) rfl) pa_nil)) pa_nil)))) pa_nil)))
       (pss_cons (ps_expr (pe_bm PySem.F.plainAttrs_list PySem.F.slot_list_extend PySem.F.type_list_extend mt_extend (pv 1) (pa_cons (pe_call (ok_filled T) (hr.mono (by decide)) rfl T.m_filled T.F_filled.kp T.b_filled .nil pass0 (pa_cons (pe_fld (pv 0) rfl) (pa_cons (pe_fld (pe_fld (pv 0) rfl) rfl) pa_nil))) pa_nil)))
       (pss_one (ps_ret (pe_call (ok_filled T) (hr.mono (by decide)) rfl T.m_filled T.F_filled.kp T.b_filled .nil pass0 (pa_cons (pv 1) (pa_cons (pe_op op_mul (pe_fld (pe_fld (pv 0) rfl) rfl) (pe_fld (pe_fld (pv 0) rfl) rfl)) pa_nil))))))))), ?_⟩
    try dsimp only [cxOf, Cx.nox, Cx.wish]
    obtain ⟨G, g, u, W, L, rfl, hQ, hG, hC, hW, hql, q⟩ := h
    have cl_Device := T.cl_Device
    have cl_Layout := T.cl_Layout
    have cl_Log := T.cl_Log
    have na_Device_layout := T.na_Device_layout
    have na_Layout_fan := T.na_Layout_fan
    have na_Layout_region_blocks := T.na_Layout_region_blocks
    have na_Layout_segments := T.na_Layout_segments
    have na_Log_head := T.na_Log_head
    have na_Log_layout := T.na_Log_layout
    have na_Log_place := T.na_Log_place
    have na_Log_present := T.na_Log_present
    have na_Log_queue := T.na_Log_queue
    have na_Log_slots := T.na_Log_slots
    obtain ⟨dx, fs, hg, F⟩ := hQ.obj
    have l1 := F.pr
    have l2 := F.sl
    have l3 := F.lay
    have l4 := F.head
    have l5 := F.place
    have l6 := F.qa
    have hpr := hG _ _ hQ.sta.pr
    have hsl := hG _ _ hQ.sta.sl
    have hss := hQ.sta.sls.mono hG
    have hqa := hG _ _ hQ.sta.qa
    have hLy := hQ.sta.lay.mono hG
    have c0 := hC.l0
    have c1 := hC.l1
    have rf := hC.rf1
    have rf0 := hC.rf0
    have r0 := hC.r0
    have r1 := hC.r1
    have f0 := hC.f0
    have f1 := hC.f1
    have s1 := hC.s1
    have s0 := hC.s0
    have pl := hW.pl
    have stl := hW.st
    have vl : u.vs.length = 3 := by rw [Paired.length hss]; exact hW.sl
    walk_at "go"
    rename_i H1 p s1 np g1
    have hsl1 := s1 _ _ hsl
    have hg1 := s1 _ _ hg
    walk_at "go"
    refine r_forL (xs := u.vs) (fun i σ' H' => ∃ v2 : Option V, σ' = [some (.ref g), some (.ref p), v2] ∧ Same H H' ∧ H' p = some (.lst ((W.present.drop (1 : Int).toNat ++ slotsN L (W.slots.take i)).map V.int))) ⟨_, rfl, s1, by rw [g1]; simp [slotsN]⟩ (fun i σ' H' _ ⟨_, _, s', _⟩ => .of (s' _ _ hsl)) ?_ ?_
    · rintro i x σ' H2 hx ⟨v2, rfl, s2, g2⟩
      obtain ⟨o, eo, hi⟩ := paired_at hss hx
      have hg2 := s2 _ _ hg
      have hLy2 := hLy.mono s2
      have hv2 : SlotIs H2 x o := hi.mono s2
      have lo : ∀ ns, o = some ns → ns.length = (L.last + 1).toNat := fun ns e => stl ns (by rw [← e]; exact List.mem_of_getElem? eo)
      have lo' : ∀ ns, o = some ns → ns.length ≤ 466 := fun ns e => by have := lo ns e; omega
      have i3 := (List.getElem?_eq_some_iff.mp hx).1
      have et : slotsN L (W.slots.take (i + 1)) = slotsN L (W.slots.take i) ++ slotN L o := by
        rw [List.take_add_one, eo]
        simp [slotsN]
      have lt := slotsN_len (L := L) (by omega) (os := W.slots.take i) fun ns q => stl ns (List.mem_of_mem_take q)
      have ll := slotN_len (L := L) lo (by omega)
      have li : (slotsN L (W.slots.take i)).length ≤ 3 * 466 := by
        rw [lt, List.length_take]
        refine Nat.mul_le_mul (by omega) (by omega)
      walk_at "go"
      rename_i H3 b s3 nb gb
      refine r_extI (s3 _ _ g2) gb AreI.map AreI.map (by rw [List.length_append, List.length_drop]; omega) (fun H4 e4 g4 => ?_)
      walk_at "go"
      refine ⟨_, rfl, Same.old (s2.trans s3) np e4, ?_⟩
      rw [g4, et, List.append_assoc]
    · rintro σ' H2 ⟨v2, rfl, s2, g2⟩
      have e3 : W.slots.take u.vs.length = W.slots := List.take_of_length_le (by rw [hW.sl, vl]; exact Nat.le_refl 3)
      rw [e3] at g2
      have hg2 := s2 _ _ hg
      have hqa2 := s2 _ _ hqa
      have hLy2 := hLy.mono s2
      have lt := slotsN_len (L := L) (by omega) (os := W.slots) stl
      rw [hW.sl] at lt
      walk_at "go"
      rename_i q1 nq1 H3 s3 g3
      refine r_extI (s3 _ _ g2) g3 AreI.map (AreI.cons (AreI.cons (AreI.cons AreI.nil))) (by rw [List.length_append, List.length_drop, lt]; simp; omega) (fun H4 e4 g4 => ?_)
      have s4 : Same H H4 := Sg.Same.old (s2.trans s3) np e4
      have hg4 := s4 _ _ hg
      have hqa4 := s4 _ _ hqa
      have hl4 := (hLy.mono s4)
      obtain ⟨dxl, fsl, hl4, Fl⟩ := id hl4
      have m1 := Fl.seg
      have m2 := Fl.reg
      have m3 := Fl.fan
      walk_at "go"
      rename_i H5 l5 s5 n5 g5
      refine r_extI (s5 _ _ g4) g5 AreI.map AreI.map (by rw [List.length_append, List.length_append, List.length_drop, lt, filI_len]; simp; omega) (fun H6 e6 g6 => ?_)
      have s6 : Same H H6 := Sg.Same.old (s4.trans s5) np e6
      have hg6 := s6 _ _ hg
      obtain ⟨dxl, fsl, hl6, Fl⟩ := hLy.mono s6
      have m2 := Fl.reg
      have m3 := Fl.fan
      have ln : (W.present.drop (1 : Int).toNat ++ slotsN L W.slots ++ [W.head, W.place, ((W.queue.map V.int).length : Int)] ++ filI W.queue L.seg.toNat).length ≤ 100000 := by
        rw [List.length_append, List.length_append, List.length_append, List.length_drop, lt, filI_len]
        simp
        omega
      walk_at "go"
      rename_i H7 l7 s7 n7 g7
      refine q _ _ (s6.trans s7) (s6.free n7) ?_
      rw [g7, List.length_map]
      rfl
theorem numsW_len {L : Lay} {W : LgM} (hC : LayC L) (hW : WOk L W) : (numsW L W).length = (4 * L.last + 6 + L.seg).toNat := by
  have l0 := hC.l0
  have s0 := hC.s0
  have lt := slotsN_len (L := L) (by omega) (os := W.slots) hW.st
  rw [hW.sl] at lt
  unfold numsW
  rw [List.length_append, List.length_append, List.length_append, List.length_drop, lt, filI_len, hW.pl]
  simp only [List.length_cons, List.length_nil]
  omega
theorem ckN_len {L : Lay} {W : LgM} : (ckN L W).length = (L.reg * L.fan).toNat := filI_len _ _
theorem rgcM' {L : Lay} {W : LgM} (hC : LayC L) : RgC 0 ((ckN L W).length : Int) L.fan L.reg.toNat := by
  have f0 := hC.f0
  have f1 := hC.f1
  have r0 := hC.r0
  have r1 := hC.r1
  have e : ((ckN L W).length : Int) = (L.reg.toNat : Int) * L.fan := by
    have h0 : 0 ≤ L.reg * L.fan := Int.mul_nonneg (by omega) (by omega)
    rw [ckN_len, Int.toNat_of_nonneg h0, Int.toNat_of_nonneg (by omega)]
  rw [e]
  exact rgcM (by omega) (by omega) (by omega)
def ckW (L : Lay) (W : LgM) (ns : List Int) : LgM := { W with queue := W.queue ++ freeL L W ns, last := W.last + 1, region := 1 - W.region }
/-- a checkpoint's parts -/
def partB (seq : Int) (ns : List Int) (c i : Nat) : BD := ⟨5, seq, (i : Int), .ints ((ns.drop (i * c)).take c)⟩
def ckD (st seq : Int) (ns : List Int) (c : Nat) (D : List (Option BD)) : Nat → List (Option BD)
  | 0 => D
  | i + 1 => putD (ckD st seq ns c D i) (st + (i : Nat)) (some (partB seq ns c i))
theorem ckD_len {st seq : Int} {ns : List Int} {c : Nat} {D : List (Option BD)} : ∀ {i : Nat}, (ckD st seq ns c D i).length = D.length
  | 0 => rfl
  | i + 1 => by rw [ckD, putD_len, ckD_len]
def ckDW (L : Lay) (W' : LgM) (D : List (Option BD)) : List (Option BD) := ckD (W'.region * L.reg) W'.last (ckN L W') L.fan.toNat D L.reg.toNat
theorem freeL_len {L : Lay} {W : LgM} {ns : List Int} : (freeL L W ns).length ≤ L.seg.toNat := by
  unfold freeL
  rw [List.length_map]
  refine Nat.le_trans (List.length_filter_le _ _) ?_
  rw [List.length_range]
  exact Nat.le_refl _
/-- what the log knows is kept in order -/
structure WIn (L : Lay) (W : LgM) : Prop where
  ok : WOk L W
  va : VaW L W
  q : ∀ z ∈ W.queue, 0 ≤ z ∧ z < L.seg
  ql : W.queue.length ≤ 500
  rg : W.region = 0 ∨ W.region = 1
theorem WOk.m' {L : Lay} {W : LgM} (h : WOk L W) (m : DevM) : WOk L { W with m := m } := ⟨h.pl, h.sl, h.st, h.h0, h.h1⟩
theorem VaW.m' {L : Lay} {W : LgM} (h : VaW L W) (m : DevM) : VaW L { W with m := m } := h
theorem barrier_shown {m : DevM} : (barrierF m).shown = m.shown := by
  unfold barrierF
  split <;> exact (takeF_lists m).2.1
def sp_write_checkpoint (w : World) (K : PySem.W.Frag) (C CD CC CL : Addr) : Sp := fun args_ H Q _ => ∃ (G : Hp) (g : Addr) (u : LU) (W : LgM) (L : Lay) (D : List (Option BD)), args_ = [.ref g] ∧ LogQ K C CD CC CL L G H g u W ∧ Frm (mutL g u) G H ∧ LayC L ∧ WIn L W ∧ Blks K H W.m.shown D ∧ W.m.wait.length ≤ 80000 ∧ ∀ G' H' u' m' ns, IsLive W ns → LogS K C CD CC CL L g G H u G' H' u' { ckW L W ns with m := m', cs := { W.cs with k := W.cs.k + 1, kb := W.cs.kb + L.reg, b := W.cs.b + 2 } } → MS L.dev.toNat L.reg.toNat W.m m' → (W.m.off = false → W.m.left = none → m'.wait = []) → Blks K H' m'.shown (ckDW L (ckW L W ns) D) → Q .non H'
theorem i_write_checkpoint {w : World} {K : PySem.W.Frag} {C CD CC CL : Addr} {args_ : List V} {H : Hp} {Q : V → Hp → Prop} {E : XK} {G : Hp} {g : Addr} {u : LU} {W : LgM} {L : Lay} {D : List (Option BD)} (ev : args_ = [.ref g]) (hQ : LogQ K C CD CC CL L G H g u W) (hF : Frm (mutL g u) G H) (hC : LayC L) (hI : WIn L W) (hB : Blks K H W.m.shown D) (hw : W.m.wait.length ≤ 80000) (q : ∀ G' H' u' m' ns, IsLive W ns → LogS K C CD CC CL L g G H u G' H' u' { ckW L W ns with m := m', cs := { W.cs with k := W.cs.k + 1, kb := W.cs.kb + L.reg, b := W.cs.b + 2 } } → MS L.dev.toNat L.reg.toNat W.m m' → (W.m.off = false → W.m.left = none → m'.wait = []) → Blks K H' m'.shown (ckDW L (ckW L W ns) D) → Q .non H') : sp_write_checkpoint w K C CD CC CL args_ H Q E := ⟨G, g, u, W, L, D, ev, hQ, hF, hC, hI, hB, hw, q⟩
local macro_rules | `(tactic| walk_at "ca1") => `(tactic| with_reducible (refine' Sg.i_write_checkpoint ?ev ?hQ ?hF ?hC ?hI ?hB ?hw ?_; (case ev => (with_unfolding_all rfl)); (case hQ => (with_unfolding_all walk_at "pr")); (case hF => (with_unfolding_all walk_at "pr")); (case hC => (with_unfolding_all walk_at "pr")); (case hI => (with_unfolding_all walk_at "pr")); (case hB => (with_unfolding_all walk_at "pr")); (case hw => (with_unfolding_all walk_at "pr")); intros))

theorem ok_write_checkpoint (T : Txt K mg) : FnOk P w K mg base CX0 3 T.a_write_checkpoint T.fd_write_checkpoint ["log"] (sp_write_checkpoint w K T.A_Log T.A_Device T.A_Counts T.A_Layout) := by
  refine T.F_write_checkpoint.ok sc_write_checkpoint (fun vs H Q E h => ?_) (fun cdv A outer s H vs Q E hr h => ?_)
  · obtain ⟨G, g, u, W, L, D, rfl, _⟩ := h
    rfl
  · refine ⟨_, (pss_cons (ps_expr (pe_meth0 (pe_fld (pv 0) rfl) T.cl_Device T.me_Device_barrier (ok_Device_barrier T) (hr.mono (by decide)) T.b_Device_barrier .nil pass0))
       (pss_cons (ps_fld (pv 0) (pe_op op_cat (pe_fld (pv 0) rfl) (pe_call (ok_segments_to_free T) (hr.mono (by decide)) rfl T.m_segments_to_free T.F_segments_to_free.kp T.b_segments_to_free .nil pass0 (pa_cons (pv 0) pa_nil))) rfl)
       (pss_cons (ps_fld (pv 0) (pe_op op_add (pe_fld (pv 0) rfl) pe_int) rfl)
       (pss_cons (ps_fld (pv 0) (pe_op op_sub pe_int (pe_fld (pv 0) rfl)) rfl)
       (pss_cons (ps_set (i := 1) sc_write_checkpoint.nd rfl (Or.inl rfl) (pe_call (ok_region_start T) (hr.mono (by decide)) rfl T.m_region_start T.F_region_start.kp T.b_region_start .nil pass0 (pa_cons (pe_fld (pv 0) rfl) (pa_cons (pe_fld (pv 0) rfl) pa_nil))))
       (pss_cons (ps_for PassesOwn.never rfl (pi_enumA (by rfl) T.n_enumerate (pa_cons (pe_call (ok_pieces T) (hr.mono (by decide)) rfl T.m_pieces T.F_pieces.kp T.b_pieces .nil pass0 (pa_cons (pe_call (ok_checkpoint_numbers T) (hr.mono (by decide)) rfl T.m_checkpoint_numbers T.F_checkpoint_numbers.kp T.b_checkpoint_numbers .nil pass0 (pa_cons (pv 0) pa_nil)) (pa_cons (pe_fld (pe_fld (pv 0) rfl) rfl) pa_nil))) pa_nil)) (pg_tup (by rfl) (pgs_cons (pg_name (i := 2) sc_write_checkpoint.nd rfl (Or.inl rfl)) (pgs_cons (pg_name (i := 3) sc_write_checkpoint.nd rfl (Or.inl rfl)) pgs_nil)))
       (pss_one (ps_expr (pe_meth (pe_fld (pv 0) rfl) T.cl_Device T.me_Device_write (ok_Device_write T) (hr.mono (by decide)) T.b_Device_write .nil pass0 (pa_cons (pe_op op_add (pv 1) (pv 2)) (pa_cons (pe_tup (pa_cons (pe_glob rfl T.c_PART T.r_PART) (pa_cons (pe_fld (pv 0) rfl) (pa_cons (pv 2) (pa_cons (pe_callTy c_tuple (by rfl) T.n_tuple (by decide +kernel) (pa_cons (pv 3) pa_nil)) pa_nil))))) pa_nil))))))
       (pss_cons (ps_expr (pe_meth0 (pe_fld (pv 0) rfl) T.cl_Device T.me_Device_barrier (ok_Device_barrier T) (hr.mono (by decide)) T.b_Device_barrier .nil pass0))
       (pss_cons (ps_set (i := 4) sc_write_checkpoint.nd rfl (Or.inl rfl) (pe_fld (pv 0) rfl))
       (pss_cons (ps_fldaug (pv 4) pe_int in_add)
       (pss_cons (ps_fldaug (pv 4) (pe_fld (pe_fld (pv 0) rfl) rfl) in_add)
       (pss_one (ps_fldaug (pv 4) pe_int in_add)))))))))))), ?_⟩
    try dsimp only [cxOf, Cx.nox, Cx.wish]
    obtain ⟨G, g, u, W, L, D, rfl, hQ, hF, hC, hI, hB, hw, q⟩ := h
    have cl_Counts := T.cl_Counts
    have cl_Device := T.cl_Device
    have cl_Layout := T.cl_Layout
    have cl_Log := T.cl_Log
    have na_Counts_barriers := T.na_Counts_barriers
    have na_Counts_checkpoint_blocks := T.na_Counts_checkpoint_blocks
    have na_Counts_checkpoints := T.na_Counts_checkpoints
    have na_Device_layout := T.na_Device_layout
    have na_Layout_fan := T.na_Layout_fan
    have na_Layout_region_blocks := T.na_Layout_region_blocks
    have na_Log_counts := T.na_Log_counts
    have na_Log_device := T.na_Log_device
    have na_Log_last_sequence := T.na_Log_last_sequence
    have na_Log_layout := T.na_Log_layout
    have na_Log_queue := T.na_Log_queue
    have na_Log_region := T.na_Log_region
    obtain ⟨dx, fs, hg, F⟩ := hQ.obj
    have l1 := F.dev
    obtain ⟨dxd, fsd, usd, hd1, hd2, _⟩ := id hQ.dev
    have nB := hd2.nB
    have hDv := hQ.dev
    have hW := hI.ok
    have ql := hI.ql
    have s16 := hC.s1
    walk_at "go"
    rename_i H1 su1 sh1 un1 e1 k1 D1 n1
    have S1 := hQ.dev' hF e1 k1 D1 n1 (MS.barrier (N := L.dev.toNat)).lay
    have B1 := hB.keeps k1
    have hW1 := hW.m' (barrierF W.m)
    have hV1 := hI.va.m' (barrierF W.m)
    have msb : MS L.dev.toNat 0 W.m (barrierF W.m) := MS.barrier
    generalize hm1 : barrierF W.m = m1 at *
    generalize hW1e : ({ W with m := m1 } : LgM) = W1 at *
    generalize ({ u with su := su1, sh := sh1, un := un1 } : LU) = u1 at *
    have wl1 := msb.wt
    have hQ1 := S1.q
    have hF1 := S1.st.frm
    have hql0 : W1.queue.length ≤ 500 := by rw [← hW1e]; exact ql
    have hql1 : W1.queue.length ≤ 1000 := by omega
    obtain ⟨dx1, fs1, hg1, F1⟩ := S1.q.obj
    have l11 := F1.qa
    have few1 := F1.few
    have hqa1 := hF1.gh _ _ hQ1.sta.qa
    walk_at "go"
    rename_i H2 fl ns s2 nfl gfl hlive
    have fle := freeL_len (L := L) (W := W1) (ns := ns)
    have hqa2 := s2 _ _ hqa1
    have hg2 := s2 _ _ hg1
    refine r_catI hqa2 gfl AreI.map AreI.map (by omega) (fun H3 qn s3 n3 g3 => ?_)
    have hg3 := s3 _ _ hg2
    walk_at "go"
    rename_i H4 e4 g4
    have o0 := Own.start hQ1 hF1
    have o3 := (o0.same s2).same s3
    have o4 := o3.set hF1 hg3 e4 (F1.qa' qn _) rfl (o3.sta.qa' (o3.got (s2.free n3) g3)) (PartOf.qa' (s2.free n3))
    have F4 := F1.qa' qn (W1.queue ++ freeL L W1 ns)
    have l41 := F4.last
    have few4 := F4.few
    walk_at "go"
    rename_i H5 e5 g5
    have o5 := o4.set hF1 g4 e5 (F4.last' _) rfl (o4.sta.last' _)
    have F5 := F4.last' (W1.last + 1)
    have l51 := F5.region
    have few5 := F5.few
    walk_at "go"
    rename_i H6 e6 g6
    have o6 := o5.set hF1 g5 e6 (F5.region' _) rfl (o5.sta.region' _)
    obtain ⟨G6, u6, S6⟩ : ∃ G6 u6, LogS K T.A_Log T.A_Device T.A_Counts T.A_Layout L g G H1 u1 G6 H6 u6 (ckW L W1 ns) := ⟨_, _, (o6.done hQ1 hF1 rfl rfl).to rfl⟩
    have hW6 : WOk L (ckW L W1 ns) := ⟨hW1.pl, hW1.sl, hW1.st, hW1.h0, hW1.h1⟩
    have ql6 : (ckW L W1 ns).queue.length ≤ 1000 := by show (W1.queue ++ freeL L W1 ns).length ≤ 1000; rw [List.length_append]; omega
    have rg1 : W1.region = 0 ∨ W1.region = 1 := by rw [← hW1e]; exact hI.rg
    have rg60 : 0 ≤ (ckW L W1 ns).region := by show 0 ≤ 1 - W1.region; omega
    have rg61 : (ckW L W1 ns).region ≤ 1 := by show 1 - W1.region ≤ 1; omega
    have m6 : (ckW L W1 ns).m = m1 := by rw [← hW1e]; rfl
    have cs6 : (ckW L W1 ns).cs = W.cs := by rw [← hW1e]; rfl
    generalize hW6e : ckW L W1 ns = W6 at *
    clear o0 o3 o4 o5 o6 F4 F5 l41 l51 few4 few5 e4 g4 e5 g5 e6
    have hQ6 := S6.q
    have hF6 := S6.st.frm
    have hG6 := hF6.gh
    obtain ⟨dx6, fs6, hg6, F6⟩ := S6.q.obj
    have l61 := F6.lay
    have l62 := F6.region
    have hLy6 := hQ6.sta.lay.mono hG6
    obtain ⟨dxl, fsl, hl6, Fl⟩ := id hLy6
    have m2 := Fl.fan
    have rgc := rgcM' (L := L) (W := W6) hC
    have r0 := hC.r0
    have r1 := hC.r1
    have f0 := hC.f0
    have hn60 : L.reg.toNat ≤ 1000 := by omega
    walk_at "go"
    refine r_ienumA ?_
    walk_at "go"
    rename_i H7 nl s7 nnl gnl H8 pl rs s8 npl gpl rsl hrs
    have S8 := S6.trans (S6.q.grew S6.st.frm (s7.trans s8))
    have rsG : ∀ i r, rs[i]? = some r → grow G6 H6 H8 r = some (.lst ((((ckN L W6).drop (i * L.fan.toNat)).take L.fan.toNat).map V.int)) := fun i r h => by
      obtain ⟨nr, e⟩ := hrs i r h
      rw [grow_new (s7.free nr)]
      exact e
    have plG : grow G6 H6 H8 pl = some (.lst (rs.map V.ref)) := by rw [grow_new (s7.free npl)]; exact gpl
    have B8 : Blks K H8 m1.shown D := by rw [← hm1, barrier_shown]; exact B1.keeps S8.st.kp
    generalize hst : W6.region * L.reg = start at *
    refine r_kIeL (.of gpl) ?_
    refine r_forE (xs := rs.map V.ref) (fun i σ' H' => ∃ (G' : Hp) (u' : LU) (m' : DevM) (v2 v3 : Option V), σ' = [some (.ref g), some (.int start), v2, v3, none] ∧ LogS K T.A_Log T.A_Device T.A_Counts T.A_Layout L g G H1 u1 G' H' u' { W6 with m := m' } ∧ Same (grow G6 H6 H8) G' ∧ MS L.dev.toNat i m1 m' ∧ Blks K H' m'.shown (ckD start W6.last (ckN L W6) L.fan.toNat D i)) ⟨_, _, m1, _, _, rfl, S8.to (by rw [← m6]), Same.refl _, MS.refl, B8⟩ (fun i σ' H' _ ⟨G', _, _, _, _, _, S, sg, _⟩ => .of (S.st.gh _ _ (sg _ _ plG))) ?_ ?_
    · rintro i x σ' H9 H10 tp hx ⟨G9, u9, m9, v2, v3, rfl, S9, sg9, ms9, B9⟩ nT hT
      have s10 : Same H9 H10 := Sg.Same.of_new hT nT
      have gT : H10 tp = some (.tup [.int (i : Nat), x]) := Sg.at_new hT
      have S10 := S9.trans (S9.q.grew S9.st.frm s10)
      have hi := (List.getElem?_eq_some_iff.mp hx).1
      rw [List.length_map, rsl] at hi
      rw [List.getElem?_map] at hx
      obtain ⟨r, hr, rfl⟩ := Option.map_eq_some_iff.mp hx
      have hr10 := S10.st.gh _ _ (grow_same S9.st.gh _ _ (sg9 _ _ (rsG i r hr)))
      obtain ⟨dx10, fs10, hg10, F10⟩ := S10.q.obj
      have l101 := F10.dev
      have l102 := F10.last
      obtain ⟨dxd10, fsd10, usd10, hd110, hd210, _⟩ := id S10.q.dev
      have nWr10 := hd210.nW
      have wl10 : m9.wait.length ≤ 100000 := by have := ms9.wt; omega
      walk_at "go"
      rename_i t1 nt1 H11 s11 g11 t2 nt2 H12 s12 g12
      have T10 := S9.q.grew S9.st.frm s10
      have T12 := S10.q.grew S10.st.frm (s11.trans s12)
      have S12 := S10.trans T12
      refine i_write rfl S12.q.dev wl10 (fun H13 su13 sh13 un13 e13 k13 D13 n13 => ?_)
      have S13 := S12.q.dev' S12.st.frm e13 k13 D13 n13 (MS.write (N := L.dev.toNat)).lay
      have hbv : BlkAt K H12 (.ref t2) (some (partB W6.last (ckN L W6) L.fan.toNat i)) := ⟨t2, t1, rfl, .of g12, .of (s12 _ _ g11)⟩
      have B12 : Blks K H12 m9.shown (ckD start W6.last (ckN L W6) L.fan.toNat D i) := B9.keeps (Keeps.of (s10.trans (s11.trans s12)))
      exact ⟨_, _, _, _, _, rfl, S12.trans S13, sg9.trans (T10.st.gg.trans (T12.st.gg.trans S13.st.gg)), ms9.trans MS.write, blks_put (B12.keeps k13) (hbv.keeps k13)⟩
    · rintro σ' H9 ⟨G9, u9, m9, v2, v3, rfl, S9, sg9, ms9, B9⟩
      rw [List.length_map, rsl] at ms9 B9
      obtain ⟨dx9, fs9, hg9, F9⟩ := S9.q.obj
      have l91 := F9.dev
      obtain ⟨dxd9, fsd9, usd9, hd19, hd29, _⟩ := id S9.q.dev
      have nB9 := hd29.nB
      have hDv9 := S9.q.dev
      dsimp only at hDv9
      walk_at "go"
      rename_i H10 su10 sh10 un10 e10 k10 D10 n10
      have S10 := S9.trans (S9.q.dev' S9.st.frm e10 k10 D10 n10 (MS.barrier (N := L.dev.toNat)).lay)
      obtain ⟨dx10, fs10, hg10, F10⟩ := S10.q.obj
      have l101 := F10.ca
      dsimp only at l101
      obtain ⟨dxc, fsc, hc10, Fc⟩ := S10.q.cnt
      dsimp only at Fc hc10
      rw [cs6] at Fc
      have l102 := Fc.k
      have fewc := Fc.few
      walk_at "go"
      rename_i H11 e11 g11
      have S11 := S10.trans (S10.q.cnt' S10.st.frm hc10 e11 (Fc.k' _))
      have F11 := Fc.k' (W.cs.k + 1)
      have few11 := F11.few
      obtain ⟨dx11, fs11, hg11, Fg11⟩ := S11.q.obj
      have l111 := Fg11.lay
      obtain ⟨dxl11, fsl11, hl11, Fl11⟩ := S11.q.sta.lay.mono S11.st.gh
      have l112 := Fl11.reg
      refine r_fldaugX (j := L.reg) rfl g11 cl_Counts na_Counts_checkpoint_blocks F11.kb (by omega) (fun R hR => ?_) ?_
      · walk_at "go"
        exact hR
      generalize hH12 : upd H11 _ _ = H12
      have g12 := Sg.at_new hH12
      have S12 := S11.trans (S11.q.cnt' S11.st.frm g11 hH12 (F11.kb' _))
      have F12 := F11.kb' (W.cs.kb + L.reg)
      have l121 := F12.b
      have few12 := F12.few
      walk_at "go"
      rename_i H13 e13 g13
      have S13 := S12.trans (S12.q.cnt' S12.st.frm g12 e13 (F12.b' _))
      have msx := (msb.trans ms9).trans (MS.barrier (N := L.dev.toNat))
      have kp := k10.trans ((Keeps.upd hc10 insNF e11).trans ((Keeps.upd g11 insNF hH12).trans (Keeps.upd g12 insNF e13)))
      refine q _ _ _ (barrierF m9) ns (by rw [← hW1e] at hlive; exact hlive) ((S1.trans S13).to ?_) (msx.mono (by omega)) (fun h1 h2 => ?_) ?_
      · rw [← hW6e, ← hW1e]
        rfl
      · obtain ⟨a, b⟩ := (msb.trans ms9).on h1 h2
        exact bar_wait a b
      · rw [barrier_shown]
        have e6 : ckDW L (ckW L W ns) D = ckD start W6.last (ckN L W6) L.fan.toNat D L.reg.toNat := by
          unfold ckDW
          rw [← hst, ← hW6e, ← hW1e]
          rfl
        rw [e6]
        exact B9.keeps kp

/-! ### keys of dicts that collect -/
theorem keys_put {kvs : List (Key × V)} {ks : List Int} {z : Int} {v : V} (h : kvs.map (·.1) = ks.map Sum.inl) : (putK kvs (.inl z) v).map (·.1) = (if z ∈ ks then ks else ks ++ [z]).map Sum.inl := by
  have e : (kvs.any fun kv => decide (kv.1 = (Sum.inl z : Key))) = decide (z ∈ ks) := by
    have e1 : (kvs.any fun kv => decide (kv.1 = (Sum.inl z : Key))) = (kvs.map (·.1)).any fun x => decide (x = (Sum.inl z : Key)) := by rw [List.any_map]; rfl
    rw [e1, h, List.any_map, Bool.eq_iff_iff, List.any_eq_true, decide_eq_true_iff]
    constructor
    · rintro ⟨x, hx, hz⟩
      have hz' := of_decide_eq_true hz
      cases hz'
      exact hx
    · exact fun hz => ⟨z, hz, decide_eq_true rfl⟩
  unfold putK
  rw [e]
  by_cases c : z ∈ ks
  · rw [if_pos (decide_eq_true c), if_pos c, List.map_map, ← h]
    refine List.map_congr_left fun kv _ => ?_
    show (if kv.1 = _ then (kv.1, v) else kv).1 = kv.1
    split <;> rfl
  · rw [if_neg (by rw [decide_eq_true_iff]; exact c), if_neg c, List.map_append, h, List.map_append]
    rfl
def insK (ks : List Int) (z : Int) : List Int := if z ∈ ks then ks else ks ++ [z]
theorem insK_nd {ks : List Int} {z : Int} (h : ks.Nodup) : (insK ks z).Nodup := by
  unfold insK
  split
  · exact h
  · rename_i c
    exact List.nodup_append.mpr ⟨h, by simp, fun a ha b hb => by rw [List.mem_singleton.mp hb]; exact fun e => c (e ▸ ha)⟩
theorem insK_mem {ks : List Int} {z a : Int} : a ∈ insK ks z ↔ (a ∈ ks ∨ a = z) := by
  unfold insK
  split
  · rename_i c
    exact ⟨.inl, fun h => h.elim id fun e => e ▸ c⟩
  · rw [List.mem_append, List.mem_singleton]
theorem insK_len {ks : List Int} {z : Int} : (insK ks z).length ≤ ks.length + 1 := by
  unfold insK
  split
  · omega
  · rw [List.length_append]
    exact Nat.le_refl _

theorem LogQ.frame {K : PySem.W.Frag} {C CD CC CL : Addr} {L : Lay} {g : Addr} {G G' H H' : Hp} {u : LU} {W : LgM} (h : LogQ K C CD CC CL L G H g u W) (s : Same G G') (e : ∀ x ∈ mutL g u, ∀ o, H x = some o → H' x = some o) (k : Keeps H H') : LogQ K C CD CC CL L G' H' g u W := by
  obtain ⟨dx, fs, hg, F⟩ := h.obj
  exact ⟨⟨dx, fs, e _ (by simp [mutL]) _ hg, F⟩, h.cnt.of fun o ho => e _ (by simp [mutL]) _ ho, h.dev.frame (fun x hx o ho => e x (by unfold mutL; exact List.mem_cons_of_mem _ (List.mem_cons_of_mem _ hx)) o ho) k, h.sta.mono s, h.nd⟩
theorem Frm.sub {M N : List Addr} {G H : Hp} (f : Frm M G H) (h : ∀ x ∈ N, x ∈ M) : Frm N G H := ⟨f.gh, fun x hx => f.mg x (h x hx), fun x hx => f.lv x (h x hx)⟩
theorem nd_len : ∀ (n : Nat) (l : List Int), l.Nodup → (∀ z ∈ l, 0 ≤ z ∧ z < n) → l.length ≤ n
  | 0, [], _, _ => Nat.le_refl _
  | 0, z :: l, _, h => by have := h z (List.mem_cons_self ..); omega
  | n + 1, l, nd, h => by
    have h1 := nd_len n (l.erase (n : Int)) (nd.erase _) fun z hz => by
      have hz' := (nd.mem_erase_iff).mp hz
      have := h z hz'.2
      have := hz'.1
      omega
    have h2 := List.length_erase (a := (n : Int)) (l := l)
    split at h2 <;> omega
theorem putD_in {D : List (Option BD)} {a : Int} {o : Option BD} (h0 : 0 ≤ a) (h1 : a < D.length) : putD D a o = D.set a.toNat o := if_pos ⟨h0, h1⟩
theorem wrN_len {D : List (Option BD)} {st seq : Int} {pls : List (Int × Body)} : ∀ {i : Nat}, (wrN D st seq pls i).length = D.length
  | 0 => rfl
  | i + 1 => by rw [wrN, putD_len, wrN_len]
theorem writeD_len {L : Lay} {W : LgM} {d : BD} {pls : List (Int × Body)} {D : List (Option BD)} : (writeD L W d pls D).length = D.length := by
  unfold writeD
  rw [wrN_len, putD_len]
/-- a batch fits -/
theorem start_in {L : Lay} {W : LgM} {n : Nat} (hC : LayC L) (h0 : 0 ≤ W.head) (h1 : W.head < L.seg) (p0 : 0 ≤ W.place) (p1 : W.place + 1 + n ≤ L.blk) : 2 * L.reg ≤ startOf L W ∧ startOf L W + 1 + n ≤ L.dev := by
  have b0 := hC.b0
  have dv := hC.dv
  have a : 0 ≤ W.head * L.blk := Int.mul_nonneg h0 (by omega)
  have b : W.head * L.blk + L.blk ≤ L.seg * L.blk := by
    have := Int.mul_le_mul_of_nonneg_right (show W.head + 1 ≤ L.seg by omega) (show 0 ≤ L.blk by omega)
    rw [Int.add_mul, Int.one_mul] at this
    exact this
  unfold startOf
  omega
/-! ### what stays in order -/
structure Fit (L : Lay) (W : LgM) (D : List (Option BD)) : Prop where
  ok : WOk L W
  va : VaW L W
  q : ∀ z ∈ W.queue, 0 ≤ z ∧ z < L.seg
  nd : (W.head :: W.queue).Nodup
  p0 : 0 ≤ W.place
  rg : W.region = 0 ∨ W.region = 1
  dl : (D.length : Int) = L.dev
  d0 : payD (readD D 0) = none
theorem Fit.ql {L : Lay} {W : LgM} {D : List (Option BD)} (h : Fit L W D) : W.queue.length ≤ L.seg.toNat :=
  nd_len _ _ (List.nodup_cons.mp h.nd).2 fun z hz => by have := h.q z hz; omega
theorem Fit.win {L : Lay} {W : LgM} {D : List (Option BD)} (hC : LayC L) (h : Fit L W D) : WIn L W := ⟨h.ok, h.va, h.q, by have := h.ql; have := hC.s1; omega, h.rg⟩
theorem freeL_mem {L : Lay} {W : LgM} {ns : List Int} {z : Int} (h : z ∈ freeL L W ns) : 0 ≤ z ∧ z < L.seg ∧ z ∉ keptL L W ns := by
  unfold freeL at h
  obtain ⟨i, hi, rfl⟩ := List.mem_map.mp h
  obtain ⟨h1, h2⟩ := List.mem_filter.mp hi
  have := List.mem_range.mp h1
  refine ⟨by omega, by omega, by simpa using h2⟩
theorem freeL_nd {L : Lay} {W : LgM} {ns : List Int} : (freeL L W ns).Nodup := by
  unfold freeL
  refine List.Pairwise.map _ (fun a b h => ?_) (List.nodup_range.filter _)
  omega
theorem Fit.qnd {L : Lay} {W : LgM} {D : List (Option BD)} (h : Fit L W D) (ns : List Int) : (W.head :: (W.queue ++ freeL L W ns)).Nodup := by
  obtain ⟨h1, h2⟩ := List.nodup_cons.mp h.nd
  have out : ∀ z ∈ freeL L W ns, z ≠ W.head ∧ z ∉ W.queue := fun z hz => by
    have := (freeL_mem hz).2.2
    unfold keptL at this
    simp only [List.mem_append, not_or] at this
    exact ⟨fun e => this.1.2 (List.mem_singleton.mpr e), this.2⟩
  refine List.nodup_cons.mpr ⟨fun hm => ?_, List.nodup_append.mpr ⟨h2, freeL_nd, fun a ha b hb e => (out b hb).2 (e ▸ ha)⟩⟩
  rcases List.mem_append.mp hm with hm | hm
  · exact h1 hm
  · exact (out _ hm).1 rfl
theorem Fit.qlen {L : Lay} {W : LgM} {D : List (Option BD)} (h : Fit L W D) (ns : List Int) : (W.queue ++ freeL L W ns).length ≤ L.seg.toNat :=
  nd_len _ _ (List.nodup_cons.mp (h.qnd ns)).2 fun z hz => by
    rcases List.mem_append.mp hz with hz | hz
    · have := h.q z hz; omega
    · have := freeL_mem hz; omega
/-! ### deeds keep what the log knows in order -/
theorem Fit.re {L : Lay} {W W' : LgM} {D : List (Option BD)} (h : Fit L W D) (e1 : W'.present = W.present) (e2 : W'.slots = W.slots) (e3 : W'.head = W.head) (e4 : W'.place = W.place) (e5 : W'.queue = W.queue) (e6 : W'.region = W.region) : Fit L W' D := by
  obtain ⟨⟨o1, o2, o3, o4, o5⟩, va, q, nd, p0, rg, dl, d0⟩ := h
  refine ⟨⟨by rw [e1]; exact o1, by rw [e2]; exact o2, by rw [e2]; exact o3, by rw [e3]; exact o4, by rw [e3]; exact o5⟩, fun a ha => va a ?_, by rw [e5]; exact q, by rw [e3, e5]; exact nd, by rw [e4]; exact p0, by rw [e6]; exact rg, dl, d0⟩
  unfold InW at ha ⊢
  rw [e1, e2] at ha
  exact ha
theorem Fit.enter {L : Lay} {W : LgM} {D : List (Option BD)} (f : Fit L W D) {h : Int} {t : List Int} (e : W.queue = h :: t) : Fit L (enterW W h t) D := by
  have nd := f.nd
  rw [e] at nd
  have hq := f.q
  rw [e] at hq
  have hh := hq h (List.mem_cons_self ..)
  exact ⟨⟨f.ok.pl, f.ok.sl, f.ok.st, hh.1, hh.2⟩, f.va, fun z hz => hq z (List.mem_cons_of_mem _ hz), (List.nodup_cons.mp nd).2, Int.le_refl 0, f.rg, f.dl, f.d0⟩
theorem Fit.room {L : Lay} {W W1 : LgM} {D : List (Option BD)} {n : Nat} (hC : LayC L) (f : Fit L W D) (hn : (n : Int) ≤ L.pay) (e : roomW L W n = some W1) : Fit L W1 D ∧ W1.place + 1 + n ≤ L.blk ∧ W1.last = W.last ∧ W1.cs = W.cs ∧ W1.m = W.m := by
  have pay := hC.pay
  unfold roomW at e
  split at e
  · cases hq : W.queue with
    | nil => rw [hq] at e; cases e
    | cons h t =>
      rw [hq] at e
      dsimp only at e
      rw [if_neg (by omega)] at e
      cases e
      exact ⟨f.enter hq, by show 0 + 1 + (n : Int) ≤ L.blk; omega, rfl, rfl, rfl⟩
  · cases e
    exact ⟨f, by omega, rfl, rfl, rfl⟩
theorem commitN_va {L : Lay} {T ids : List Int} {st : Int} (hT : ∀ a ∈ T, Va L a) (hs : ∀ j, j < ids.length → Va L (st + (j : Nat))) : ∀ {n : Nat}, n ≤ ids.length → ∀ a ∈ commitN T st ids n, Va L a
  | 0, _, a, h => hT a h
  | n + 1, hn, a, h => by
    have ih := commitN_va hT hs (n := n) (by omega)
    rw [commitN] at h
    split at h
    · rcases List.mem_or_eq_of_mem_set h with h | h
      · exact ih a h
      · rw [h]; exact hs n (by omega)
    · exact ih a h
theorem commitF_va {L : Lay} {T ids used : List Int} {st : Int} (hT : ∀ a ∈ T, Va L a) (hs : ∀ j, j < ids.length → Va L (st + (j : Nat))) : ∀ a ∈ commitF T st ids used, Va L a := fun a h => by
  unfold commitF at h
  obtain ⟨k, hk, rfl⟩ := List.mem_map.mp h
  have hk := List.mem_range.mp hk
  split
  · refine commitN_va hT hs (Nat.le_refl _) _ ?_
    rw [List.getD_eq_getElem?_getD, List.getElem?_eq_getElem (by rw [commitN_len]; exact hk)]
    exact List.getElem_mem _
  · exact .inl rfl
theorem moveOf_va {L : Lay} {ids : List Int} {st a : Int} (ha : Va L a) (hs : ∀ j, j < ids.length → Va L (st + (j : Nat))) : Va L (moveOf st ids a) := by
  unfold moveOf
  split
  · exact .inl rfl
  · cases e : firstAt ids a ids.length with
    | some j => exact hs j (firstAt_some e).1
    | none => exact ha
theorem moveF_va {L : Lay} {T ids : List Int} {st : Int} (hT : ∀ a ∈ T, Va L a) (hs : ∀ j, j < ids.length → Va L (st + (j : Nat))) : ∀ a ∈ moveF st ids T, Va L a := fun a h => by
  obtain ⟨b, hb, rfl⟩ := List.mem_map.mp h
  exact moveOf_va (hT b hb) hs
theorem readD_ne {D : List (Option BD)} {a b : Int} {o : Option BD} (h : a ≠ b) (ha : 0 ≤ b) : readD (putD D a o) b = readD D b := by
  unfold readD
  rw [putD_len]
  split
  · unfold putD
    split
    · rw [List.getD_eq_getElem?_getD, List.getElem?_set_ne (by omega), ← List.getD_eq_getElem?_getD]
    · rfl
  · rfl
theorem readD_eq {D : List (Option BD)} {a : Int} {o : Option BD} (h0 : 0 ≤ a) (h1 : a < D.length) : readD (putD D a o) a = o := by
  unfold readD
  rw [putD_len, if_pos ⟨h0, h1⟩, putD_in h0 h1, List.getD_eq_getElem?_getD, List.getElem?_set_self (by omega)]
  rfl
theorem wrN_low {D : List (Option BD)} {st seq : Int} {pls : List (Int × Body)} {b : Int} (hb : 0 ≤ b) (h : b < st) : ∀ {i : Nat}, readD (wrN D st seq pls i) b = readD D b
  | 0 => rfl
  | i + 1 => by rw [wrN, readD_ne (by omega) hb, wrN_low hb h]
theorem writeD_low {L : Lay} {W : LgM} {d : BD} {pls : List (Int × Body)} {D : List (Option BD)} {b : Int} (hb : 0 ≤ b) (h : b < startOf L W) : readD (writeD L W d pls D) b = readD D b := by
  unfold writeD
  rw [wrN_low hb h, readD_ne (by omega) hb]
theorem Fit.take {L : Lay} {W : LgM} {D : List (Option BD)} {d : BD} {pls : List (Int × Body)} (hC : LayC L) (f : Fit L W D) (p1 : W.place + 1 + cntOf d ≤ L.blk) (ha : ∀ ids used a, d.body = .com ids used a → a ≤ 6) : Fit L (takeW L W d) (writeD L W d pls D) := by
  obtain ⟨s1, s2⟩ := start_in (n := cntOf d) hC f.ok.h0 f.ok.h1 f.p0 p1
  have r0 := hC.r0
  have hs : ∀ j, j < cntOf d → Va L (2 * L.reg + W.head * L.blk + W.place + 1 + (j : Nat)) := fun j hj => .inr (by unfold startOf at s1 s2; omega)
  have hT : ∀ a ∈ W.present, Va L a := fun a h => f.va a (.inl h)
  have hS : ∀ tb, some tb ∈ W.slots → ∀ a ∈ tb, Va L a := fun tb h a k => f.va a (.inr ⟨tb, h, k⟩)
  have dl : ((writeD L W d pls D).length : Int) = L.dev := by rw [writeD_len]; exact f.dl
  have d0 : payD (readD (writeD L W d pls D) 0) = none := by rw [writeD_low (Int.le_refl 0) (by omega)]; exact f.d0
  have p0 : 0 ≤ W.place + 1 + (cntOf d : Int) := by have := f.p0; omega
  rcases e : d.body with ⟨ids⟩ | ⟨ids, used, a⟩
  · have ec : cntOf d = ids.length := by unfold cntOf; rw [e]
    rw [ec] at hs
    unfold takeW
    rw [takeP_ints e]
    generalize 2 * L.reg + W.head * L.blk + W.place + 1 = st at hs
    refine ⟨⟨by rw [moveF_len]; exact f.ok.pl, by show (W.slots.map _).length = 3; rw [List.length_map]; exact f.ok.sl, fun ns h => ?_, f.ok.h0, f.ok.h1⟩, fun b hb => ?_, f.q, f.nd, p0, f.rg, dl, d0⟩
    · obtain ⟨o, ho, e2⟩ := List.mem_map.mp h
      cases o with
      | none => cases e2
      | some tb =>
        cases e2
        rw [moveF_len]
        exact f.ok.st tb ho
    · rcases hb with hb | ⟨tb, h, k⟩
      · exact moveF_va hT hs b hb
      · obtain ⟨o, ho, e2⟩ := List.mem_map.mp h
        cases o with
        | none => cases e2
        | some tb' =>
          cases e2
          exact moveF_va (hS tb' ho) hs b k
  · have ec : cntOf d = ids.length := by unfold cntOf; rw [e]
    rw [ec] at hs
    unfold takeW
    rw [takeP_com e]
    generalize hP : commitF W.present (2 * L.reg + W.head * L.blk + W.place + 1) ids used = P
    have hPl : P.length = W.present.length := by rw [← hP]; exact commitF_len
    have hPv : ∀ a ∈ P, Va L a := by rw [← hP]; exact commitF_va hT hs
    have hsl : ∀ tb, some tb ∈ slotsF W.slots P a → tb = P ∨ some tb ∈ W.slots := fun tb h => by
      unfold slotsF at h
      split at h
      · rcases List.mem_or_eq_of_mem_set h with h | h
        · exact .inr h
        · cases h; exact .inl rfl
      · split at h
        · rcases List.mem_or_eq_of_mem_set h with h | h
          · exact .inr h
          · cases h
        · exact .inr h
    refine ⟨⟨by rw [hPl]; exact f.ok.pl, ?_, fun ns h => ?_, f.ok.h0, f.ok.h1⟩, fun b hb => ?_, f.q, f.nd, p0, f.rg, dl, d0⟩
    · show (slotsF W.slots P a).length = 3
      unfold slotsF
      split
      · rw [List.length_set]; exact f.ok.sl
      · split
        · rw [List.length_set]; exact f.ok.sl
        · exact f.ok.sl
    · rcases hsl ns h with h | h
      · rw [h, hPl]; exact f.ok.pl
      · exact f.ok.st ns h
    · rcases hb with hb | ⟨tb, h, k⟩
      · exact hPv b hb
      · rcases hsl tb h with h | h
        · rw [h] at k; exact hPv b k
        · exact hS tb h b k
theorem ckD_low {st seq : Int} {ns : List Int} {c : Nat} {D : List (Option BD)} (h : payD (readD D 0) = none) : ∀ {i : Nat}, payD (readD (ckD st seq ns c D i) 0) = none
  | 0 => h
  | i + 1 => by
    rw [ckD]
    by_cases e : st + (i : Nat) = 0
    · rw [e]
      by_cases hl : (0 : Int) < (ckD st seq ns c D i).length
      · rw [readD_eq (Int.le_refl 0) hl]
        rfl
      · have : putD (ckD st seq ns c D i) 0 (some (partB seq ns c i)) = ckD st seq ns c D i := by
          unfold putD
          exact if_neg fun z => hl z.2
        rw [this]
        exact ckD_low h
    · rw [readD_ne e (Int.le_refl 0)]
      exact ckD_low h
theorem Fit.check {L : Lay} {W : LgM} {D : List (Option BD)} {ns : List Int} (f : Fit L W D) : Fit L (ckW L W ns) (ckDW L (ckW L W ns) D) := by
  refine ⟨⟨f.ok.pl, f.ok.sl, f.ok.st, f.ok.h0, f.ok.h1⟩, f.va, fun z hz => ?_, f.qnd ns, f.p0, ?_, ?_, ?_⟩
  · rcases List.mem_append.mp hz with hz | hz
    · exact f.q z hz
    · have := freeL_mem hz
      omega
  · show 1 - W.region = 0 ∨ 1 - W.region = 1
    have := f.rg
    omega
  · unfold ckDW
    rw [ckD_len]
    exact f.dl
  · unfold ckDW
    exact ckD_low f.d0

/-- [f for i, x in enumerate(list of ints) if b] -/
theorem r_lcFE {K : PySem.W.Frag} {a : Addr} {xs : List Int} {g : TG} {tt : TT} {te : TE} {vs : List Nat} {σ : L2.St} {H : Hp} {Q : V → Hp → Prop} (b : Nat → Bool) (f : Nat → Int) (hx : SqL K H a (xs.map V.int)) (hn : xs.length ≤ 100000)
    (hs : ∀ (i : Nat) (x : Int) (H' H'' : Hp) (T : Addr), xs[i]? = some x → L2.Same H H' → H' T = none → upd H' T (.tup [.int (i : Nat), .int x]) = H'' → ∀ (R : V → Hp → Prop) (N : Hp → Prop), (b i = true → R (.int (f i)) H'') → (b i = false → N H'') → g (.ref T) (wipe σ vs) H'' fun σ2 H2 => wipe σ2 vs = wipe σ vs ∧ tt σ2 H2 fun c H3 => if c = true then te σ2 H3 R else N H3)
    (q : ∀ (H' : Hp) (l : Addr), L2.Same H H' → H l = none → H' l = some (.lst ((((List.range xs.length).filter b).map f).map V.int)) → Q (.ref l) H') :
    kLc g tt te vs σ Q (Ite K a) H := by
  intro L hL
  refine lc_it (walk_enum (K := K) (a := a) (xs := xs.map V.int)) (fun i H' => H' L = some (.lst ((((List.range i).filter b).map f).map V.int)) ∧ L2.Same H H')
    ⟨upd_same, fun b o e => by rw [upd_ne (ne_of_none e hL)]; exact e⟩ ?_ ?_ ?_
  · rintro i H' _ ⟨eL, s⟩
    exact s.seq hx
  · rintro i x H' H'' hi ⟨eL, s⟩ ⟨T, y, z, e1, nT, e3, e4, e5⟩
    cases e4
    subst e1
    rw [List.length_map] at hi
    have e5 : (xs.map V.int)[i]? = some z := e5
    rw [List.getElem?_map] at e5
    obtain ⟨v, hv, rfl⟩ := Option.map_eq_some_iff.mp e5
    have sT := Same.of_new e3.symm nT
    refine hs i v H' H'' T hv s nT e3.symm _ _ (fun hb => ⟨_, sT _ _ eL, ?_, ?_, fun b o e => by rw [upd_ne (ne_of_none e hL)]; exact sT _ _ (s _ _ e)⟩) (fun hb => ⟨?_, s.trans sT⟩)
    · rw [List.length_map, List.length_map, sz]
      have := List.length_filter_le b (List.range i)
      rw [List.length_range] at this
      omega
    · rw [upd_same, List.range_succ, List.filter_append, List.filter_cons, if_pos hb, List.filter_nil, List.map_append, List.map_append]
      rfl
    · rw [List.range_succ, List.filter_append, List.filter_cons, if_neg (by simpa using hb), List.filter_nil, List.append_nil]
      exact sT _ _ eL
  · rintro H' ⟨eL, s⟩
    rw [List.length_map] at eL
    exact q H' L s hL eL

/-- [x for x in list if b x] -/
theorem r_lcFLX {K : PySem.W.Frag} {a : Addr} {ns : List Int} {slot : Nat} {vs : List Nat} {tt : TT} {σ : L2.St} {H : Hp} {Q : V → Hp → Prop} (b : Int → Bool) (hx : SqL K H a (ns.map V.int)) (hn : ns.length ≤ 100000) (hv : vs = [slot]) (hsl : slot < σ.length)
    (ht : ∀ (z : Int) (H' : Hp), z ∈ ns → L2.Same H H' → ∀ R : Bool → Hp → Prop, R (b z) H' → tt ((wipe σ vs).set slot (some (.int z))) H' R)
    (q : ∀ (H' : Hp) (l : Addr), L2.Same H H' → H l = none → H' l = some (.lst ((ns.filter b).map V.int)) → Q (.ref l) H') :
    kLc (gName slot) tt (tVar slot) vs σ Q (Itl K a) H := by
  intro L hL
  have hw : ∀ (τ : L2.St) (x : V), wipe (τ.set slot (some x)) [slot] = wipe τ [slot] := fun τ x => by simp [wipe, List.set_set]
  have hw2 : wipe (wipe σ vs) vs = wipe σ vs := by subst hv; simp [wipe, List.set_set]
  have hwl : (wipe σ vs).length = σ.length := by subst hv; simp [wipe]
  refine lc_list (xs := ns.map V.int) (fun i H' => H' L = some (.lst (((ns.take i).filter b).map V.int)) ∧ L2.Same H H') ⟨upd_same, fun b o e => by rw [upd_ne (ne_of_none e hL)]; exact e⟩ ?_ ?_ ?_
  · rintro i H' hi ⟨_, s⟩
    exact s.seq hx
  · rintro i x H' hi ⟨eL, s⟩
    rw [List.getElem?_map] at hi
    obtain ⟨z, hz, rfl⟩ := Option.map_eq_some_iff.mp hi
    have hil := (List.getElem?_eq_some_iff.mp hz).1
    refine ⟨?_, ?_⟩
    · subst hv
      rw [hw]
      exact hw2
    · show tt ((wipe σ vs).set slot (some (.int z))) H' _
      refine ht z H' (List.mem_of_getElem? hz) s _ ?_
      refine to_ite (fun hb => ?_) (fun hb => ?_)
      · refine r_var (v := .int z) (by rw [List.getElem?_set_self (by rw [hwl]; exact hsl)]) ?_
        refine ⟨_, eL, ?_, ?_, fun b o e => by rw [upd_ne (ne_of_none e hL)]; exact s _ _ e⟩
        · rw [List.length_map, sz]
          have := List.length_filter_le b (ns.take i)
          rw [List.length_take] at this
          omega
        · rw [upd_same, List.take_add_one, hz, List.filter_append]
          show some (HO.lst (_ ++ _)) = some (HO.lst (List.map V.int (_ ++ List.filter b [z])))
          rw [List.filter_cons, if_pos hb, List.filter_nil, List.map_append]
          rfl
      · refine ⟨?_, s⟩
        rw [List.take_add_one, hz, List.filter_append]
        show _ = some (HO.lst (List.map V.int (_ ++ List.filter b [z])))
        rw [List.filter_cons, if_neg (by rw [hb]; decide), List.filter_nil, List.append_nil]
        exact eL
  · rintro H' ⟨eL, s⟩
    rw [List.length_map, List.take_length] at eL
    exact q H' L s hL eL

/-! ### xs[i] += v -/
theorem get_list {X : Cx} : PGet X (rIxL X.K) := by
  intro pins s σ H o i ov iv Q I ro ri h
  obtain ⟨p, xs, k, z, rfl, rfl, hq, he, q⟩ := h
  cases ro
  obtain ⟨t, rfl⟩ := ri
  obtain ⟨its, r, pl, hz⟩ := I.list hq
  obtain ⟨j, h1, h2, h3, h4, h5⟩ := atI_get he
  obtain ⟨u, ew, rw'⟩ := r.get h2
  have hl := r.length
  have hn := line63
  have fin : EP X pins σ Q u s := ⟨z, H, I, rw', q⟩
  by_cases h0 : 0 ≤ k
  · have hj : k.toNat = j := by
      rw [seqIndex_of h0 h5] at h1
      exact Option.some.inj h1
    exact wpAny_getItem_list pl.isList h0 (by omega) (by rw [hj]; simpa using ew) fin
  · have hj : (k + (its.toArray.size : Int)).toNat = j := by
      rw [seqIndex_neg (by omega) h4] at h1
      rw [List.size_toArray, ← hl]
      exact Option.some.inj h1
    exact wpAny_getItem_list_neg pl.isList (by omega) (by rw [List.size_toArray] <;> omega) (by omega) (by rw [hj]; simpa using ew) fin
theorem r_augS {to ti te : TE} {tget : V → V → Hp → VK → Prop} {tip : TIp} {tset : TSet} {D : Ends} {σ : L2.St} {H : Hp}
    (h : to σ H fun o H1 => ti σ H1 fun i H2 => tget o i H2 fun x H3 => te σ H3 fun y H4 => tip x y H4 fun z H5 => tset o i z H5 fun H6 => D.nx σ H6) : tAugS to ti te tget tip tset D σ H := h
local macro_rules | `(tactic| walk_at "ca1") => `(tactic| with_reducible (refine' Sg.r_augS ?_))

local macro_rules | `(tactic| walk_at "rx1") => `(tactic| with_reducible (first | refine' Sg.r_prop ?_ | (refine' Sg.r_kprop ?h ?_; (case h => (with_unfolding_all walk_at "hp"))) | refine' Sg.r_irev ?_ | (refine' Sg.r_kIv ?h ?_; (case h => (with_unfolding_all walk_at "hp"))) | refine' Sg.r_makeN ?_ | refine' Sg.r_callN ?_ | refine' Sg.r_makeSD ?_ | refine' Sg.r_callSD ?_ | refine' Sg.r_methSD ?_ | (refine' Sg.r_kmethSD ?h ?hl ?_; (case h => (with_unfolding_all walk_at "hp")); (case hl => (with_unfolding_all walk_at "lk"))) | refine' Sg.r_tryA ?_ | refine' Sg.r_din ?_ | refine' Sg.r_kdi ?_ | (refine' Sg.r_kdi2 ?h ?_; (case h => (with_unfolding_all walk_at "hp"))) | (refine' Sg.r_kdi2f ?h ?_; (case h => assumption)) | refine' Sg.r_dnotin ?_ | refine' Sg.r_kdn ?_ | (refine' Sg.r_kdn2 ?h ?_; (case h => (with_unfolding_all walk_at "hp"))) | refine' Sg.r_dget ?_ | refine' Sg.r_kdg ?_ | refine' Sg.r_dget1 ?_ | (refine' Sg.r_kdt ?h ?_; (case h => (with_unfolding_all walk_at "hp"))) | (refine' Sg.r_kdt2 ?h ?_; (case h => (with_unfolding_all walk_at "hp"))) | refine' Sg.r_dput ?_ | refine' Sg.r_kdp ?_ | refine' Sg.r_kdp2 ?_ | (refine' Sg.r_kdp3 ?h ?hl ?_; (case h => (with_unfolding_all walk_at "hp")); (case hl => (with_unfolding_all walk_at "side")); (with_unfolding_all walk_at "up")) | refine' Sg.r_ddel ?_ | refine' Sg.r_kdd ?_ | refine' Sg.r_dpop1 ?_ | (refine' Sg.r_kdo ?h ?_; (case h => (with_unfolding_all walk_at "hp"))) | refine' Sg.r_ikeys ?_ | (refine' Sg.r_kIk ?h ?_; (case h => assumption)) | (refine' Sg.r_dnew ?_; (with_unfolding_all walk_at "al")) | (refine' Sg.r_lenD ?h ?_; (case h => (with_unfolding_all walk_at "hp"))) | (refine' Sg.r_dictD ?h ?_; (case h => (with_unfolding_all walk_at "hp")); (with_unfolding_all walk_at "al"))))
local macro_rules | `(tactic| walk_at "rx") => `(tactic| repeat (first | walk_at "rd1" | walk_at "rx1"))
/-! ### segments, candidates, victims, cargo -/
def segO (L : Lay) (a : Int) : Int := (a - 2 * L.reg) / L.blk
def cn (L : Lay) (ns : List Int) (s : Nat) : Nat := (ns.filter fun a => decide (segO L a = (s : Int))).length
def cnL (L : Lay) (ns : List Int) : List Int := (List.range L.seg.toNat).map fun s => (cn L ns s : Int)
theorem cnL_len {L : Lay} {ns : List Int} : (cnL L ns).length = L.seg.toNat := by rw [cnL, List.length_map, List.length_range]
theorem cnL_at {L : Lay} {ns : List Int} {s : Nat} (h : s < L.seg.toNat) : (cnL L ns).getD s 0 = (cn L ns s : Int) := by
  unfold cnL
  rw [List.getD_eq_getElem?_getD, List.getElem?_map, List.getElem?_range h]
  rfl
theorem cnL_snoc {L : Lay} {ns : List Int} {a : Int} (h0 : 0 ≤ segO L a) (h1 : segO L a < L.seg) : (cnL L ns).set (segO L a).toNat ((cnL L ns).getD (segO L a).toNat 0 + 1) = cnL L (ns ++ [a]) := by
  have hs : (segO L a).toNat < L.seg.toNat := by omega
  rw [cnL_at hs]
  apply List.ext_getElem
  · rw [List.length_set, cnL_len, cnL_len]
  · intro k k1 k2
    rw [cnL_len] at k2
    have e : (cnL L (ns ++ [a]))[k]'(by rw [cnL_len]; exact k2) = (cn L (ns ++ [a]) k : Int) := by
      unfold cnL
      rw [List.getElem_map, List.getElem_range]
    rw [e, List.getElem_set]
    have f : cn L (ns ++ [a]) k = cn L ns k + (if segO L a = (k : Int) then 1 else 0) := by
      unfold cn
      rw [List.filter_append, List.length_append]
      split
      · rename_i c
        rw [List.filter_cons, if_pos (decide_eq_true c)]
        rfl
      · rename_i c
        rw [List.filter_cons, if_neg (by simpa using c)]
        rfl
    rw [f]
    split
    · rename_i c
      rw [if_pos (by omega), c]
      rfl
    · rename_i c
      rw [if_neg (by omega)]
      unfold cnL
      rw [List.getElem_map, List.getElem_range]
      rfl
theorem segO_in {L : Lay} (hC : LayC L) {a : Int} (h0 : 2 * L.reg ≤ a) (h1 : a < L.dev) : 0 ≤ segO L a ∧ segO L a < L.seg := by
  have b0 := hC.b0
  have dv := hC.dv
  unfold segO
  refine ⟨Int.ediv_nonneg (by omega) (by omega), Int.ediv_lt_of_lt_mul (by omega) (by omega)⟩
def candL (L : Lay) (W : LgM) (ns : List Int) : List Int := ((List.range L.seg.toNat).filter fun s : Nat => decide (0 < cn L ns s) && decide ((cn L ns s : Int) < L.pay) && !decide ((s : Int) ∈ W.queue)).map fun s : Nat => (s : Int)
theorem candL_mem {L : Lay} {W : LgM} {ns : List Int} {z : Int} : z ∈ candL L W ns ↔ (0 ≤ z ∧ z < L.seg ∧ 0 < cn L ns z.toNat ∧ (cn L ns z.toNat : Int) < L.pay ∧ z ∉ W.queue) := by
  unfold candL
  rw [List.mem_map]
  constructor
  · rintro ⟨i, hi, rfl⟩
    obtain ⟨h1, h2⟩ := List.mem_filter.mp hi
    have h1 := List.mem_range.mp h1
    simp only [Bool.and_eq_true, decide_eq_true_eq, Bool.not_eq_true', decide_eq_false_iff_not] at h2
    rw [Int.toNat_natCast]
    exact ⟨by omega, by omega, h2.1.1, h2.1.2, h2.2⟩
  · rintro ⟨h0, h1, h2, h3, h4⟩
    refine ⟨z.toNat, List.mem_filter.mpr ⟨List.mem_range.mpr (by omega), ?_⟩, by omega⟩
    have e : ((z.toNat : Nat) : Int) = z := by omega
    simp only [Bool.and_eq_true, decide_eq_true_eq, Bool.not_eq_true', decide_eq_false_iff_not]
    exact ⟨⟨h2, h3⟩, by rw [e]; exact h4⟩
theorem candL_nd {L : Lay} {W : LgM} {ns : List Int} : (candL L W ns).Nodup := by
  unfold candL
  refine List.Pairwise.map _ (fun a b h => ?_) (List.nodup_range.filter _)
  omega
theorem candL_len {L : Lay} {W : LgM} {ns : List Int} : (candL L W ns).length ≤ L.seg.toNat := by
  unfold candL
  rw [List.length_map]
  refine Nat.le_trans (List.length_filter_le _ _) ?_
  rw [List.length_range]
  exact Nat.le_refl _
def pick (found : List Int) (head : Int) (acc : List Int) (s : Int) : List Int := if s ∈ found ∧ s ≠ head ∧ s ∉ acc then acc ++ [s] else acc
def vicN (found : List Int) (head : Int) (xs : List Int) : List Int := xs.foldl (pick found head) []
def vicL (found : List Int) (head : Int) (order : List Int) : List Int := vicN found head (order ++ found) ++ if head ∈ found then [head] else []
theorem vicN_snoc {found : List Int} {head : Int} {xs : List Int} {z : Int} : vicN found head (xs ++ [z]) = pick found head (vicN found head xs) z := by
  unfold vicN
  rw [List.foldl_append]
  rfl
theorem pick_ok {found acc : List Int} {head s : Int} (h : acc.Nodup ∧ ∀ z ∈ acc, z ∈ found ∧ z ≠ head) : (pick found head acc s).Nodup ∧ ∀ z ∈ pick found head acc s, z ∈ found ∧ z ≠ head := by
  unfold pick
  split
  · rename_i c
    refine ⟨List.nodup_append.mpr ⟨h.1, by simp, fun a ha b hb => by rw [List.mem_singleton.mp hb]; exact fun e => c.2.2 (e ▸ ha)⟩, fun z hz => ?_⟩
    rcases List.mem_append.mp hz with hz | hz
    · exact h.2 z hz
    · rw [List.mem_singleton.mp hz]
      exact ⟨c.1, c.2.1⟩
  · exact h
theorem vicN_ok {found : List Int} {head : Int} {xs : List Int} : (vicN found head xs).Nodup ∧ ∀ z ∈ vicN found head xs, z ∈ found ∧ z ≠ head := by
  unfold vicN
  have : ∀ (acc : List Int), (acc.Nodup ∧ ∀ z ∈ acc, z ∈ found ∧ z ≠ head) → (xs.foldl (pick found head) acc).Nodup ∧ ∀ z ∈ xs.foldl (pick found head) acc, z ∈ found ∧ z ≠ head := by
    induction xs with
    | nil => exact fun _ h => h
    | cons x xs ih => exact fun acc h => ih _ (pick_ok h)
  exact this [] ⟨List.nodup_nil, fun z hz => nomatch hz⟩
theorem vicL_ok {found : List Int} {head : Int} {order : List Int} : (vicL found head order).Nodup ∧ ∀ z ∈ vicL found head order, z ∈ found := by
  obtain ⟨h1, h2⟩ := vicN_ok (found := found) (head := head) (xs := order ++ found)
  unfold vicL
  split
  · rename_i c
    refine ⟨List.nodup_append.mpr ⟨h1, by simp, fun a ha b hb e => (h2 a ha).2 (e.trans (List.mem_singleton.mp hb))⟩, fun z hz => ?_⟩
    rcases List.mem_append.mp hz with hz | hz
    · exact (h2 z hz).1
    · rw [List.mem_singleton.mp hz]; exact c
  · rw [List.append_nil]
    exact ⟨h1, fun z hz => (h2 z hz).1⟩
def ofSeg (L : Lay) (ns : List Int) (v : Int) : List Int := ns.filter fun a => decide (segO L a = v)
def cargA (L : Lay) (ns vs : List Int) : List Int := vs.flatMap (ofSeg L ns)
theorem cargA_snoc {L : Lay} {ns vs : List Int} {z : Int} : cargA L ns (vs ++ [z]) = cargA L ns vs ++ ofSeg L ns z := by
  unfold cargA
  rw [List.flatMap_append]
  simp
theorem cargA_len {L : Lay} {ns : List Int} : ∀ vs : List Int, (cargA L ns vs).length ≤ vs.length * ns.length
  | [] => by simp [cargA]
  | v :: vs => by
    have := cargA_len (L := L) (ns := ns) vs
    have h : (ofSeg L ns v).length ≤ ns.length := List.length_filter_le _ _
    have e : cargA L ns (v :: vs) = ofSeg L ns v ++ cargA L ns vs := rfl
    rw [e, List.length_append, List.length_cons, Nat.succ_mul]
    omega
def cargL (L : Lay) (W : LgM) (ns order : List Int) : List Int := (cargA L ns (vicL (candL L W ns) W.head order)).take L.pay.toNat
theorem cargA_mem {L : Lay} {ns vs : List Int} {a : Int} : a ∈ cargA L ns vs ↔ (a ∈ ns ∧ segO L a ∈ vs) := by
  unfold cargA
  rw [List.mem_flatMap]
  constructor
  · rintro ⟨v, hv, ha⟩
    obtain ⟨h1, h2⟩ := List.mem_filter.mp ha
    have h2 := of_decide_eq_true h2
    exact ⟨h1, h2 ▸ hv⟩
  · rintro ⟨h1, h2⟩
    exact ⟨_, h2, List.mem_filter.mpr ⟨h1, decide_eq_true rfl⟩⟩
theorem live_len {L : Lay} {W : LgM} {ns : List Int} (hC : LayC L) (hV : VaW L W) (h : IsLive W ns) : ns.length ≤ 1000 := by
  have h1 : ∀ a ∈ ns, 0 ≤ a ∧ a < L.dev := fun a ha => by
    have k := (h.2 a).mp ha
    rcases hV a k.1 with e | ⟨e1, e2⟩
    · exact absurd e k.2
    · have := hC.r0
      exact ⟨by omega, e2⟩
  have := sorted_len h.1 h1
  have := hC.d1
  omega
def sp_live_counts (w : World) (K : PySem.W.Frag) (C CD CC CL : Addr) : Sp := fun args_ H Q _ => ∃ (G : Hp) (g : Addr) (u : LU) (W : LgM) (L : Lay), args_ = [.ref g] ∧ LogQ K C CD CC CL L G H g u W ∧ Same G H ∧ LayC L ∧ WOk L W ∧ VaW L W ∧ ∀ H' l ns, Same H H' → H l = none → H' l = some (.lst ((cnL L ns).map V.int)) → IsLive W ns → Q (.ref l) H'
theorem i_live_counts {w : World} {K : PySem.W.Frag} {C CD CC CL : Addr} {args_ : List V} {H : Hp} {Q : V → Hp → Prop} {E : XK} {G : Hp} {g : Addr} {u : LU} {W : LgM} {L : Lay} (ev : args_ = [.ref g]) (hQ : LogQ K C CD CC CL L G H g u W) (hG : Same G H) (hC : LayC L) (hW : WOk L W) (hV : VaW L W) (q : ∀ H' l ns, Same H H' → H l = none → H' l = some (.lst ((cnL L ns).map V.int)) → IsLive W ns → Q (.ref l) H') : sp_live_counts w K C CD CC CL args_ H Q E := ⟨G, g, u, W, L, ev, hQ, hG, hC, hW, hV, q⟩
local macro_rules | `(tactic| walk_at "ca1") => `(tactic| with_reducible (refine' Sg.i_live_counts ?ev ?hQ ?hG ?hC ?hW ?hV ?_; (case ev => (with_unfolding_all rfl)); (case hQ => (with_unfolding_all walk_at "pr")); (case hG => (with_unfolding_all walk_at "pr")); (case hC => (with_unfolding_all walk_at "pr")); (case hW => (with_unfolding_all walk_at "pr")); (case hV => (with_unfolding_all walk_at "pr")); intros))

theorem ok_live_counts (T : Txt K mg) : FnOk P w K mg base CX0 2 T.a_live_counts T.fd_live_counts ["log"] (sp_live_counts w K T.A_Log T.A_Device T.A_Counts T.A_Layout) := by
  refine T.F_live_counts.ok sc_live_counts (fun vs H Q E h => ?_) (fun cdv A outer s H vs Q E hr h => ?_)
  · obtain ⟨G, g, u, W, L, rfl, _⟩ := h
    rfl
  · refine ⟨_, (pss_cons (ps_set (i := 1) sc_live_counts.nd rfl (Or.inl rfl) (pe_op op_rep (pe_lst (pa_cons pe_int pa_nil)) (pe_fld (pe_fld (pv 0) rfl) rfl)))
       (pss_cons (ps_for PassesOwn.never rfl (pi_list (pe_call (ok_live_addresses T) (hr.mono (by decide)) rfl T.m_live_addresses T.F_live_addresses.kp T.b_live_addresses .nil pass0 (pa_cons (pv 0) pa_nil))) (pg_name (i := 2) sc_live_counts.nd rfl (Or.inl rfl))
       (pss_cons (ps_set (i := 3) sc_live_counts.nd rfl (Or.inl rfl) (pe_call (ok_segment_of T) (hr.mono (by decide)) rfl T.m_segment_of T.F_segment_of.kp T.b_segment_of .nil pass0 (pa_cons (pe_fld (pv 0) rfl) (pa_cons (pv 2) pa_nil))))
       (pss_one (ps_if (pt_cmp (pc_notN (pv 3)) rfl)
       (pss_one (ps_augS (pv 1) (pv 3) get_list pe_int ip_add set_list))
       pss_nil))))
       (pss_one (ps_ret (pv 1))))), ?_⟩
    try dsimp only [cxOf, Cx.nox, Cx.wish]
    obtain ⟨G, g, u, W, L, rfl, hQ, hG, hC, hW, hV, q⟩ := h
    have cl_Device := T.cl_Device
    have cl_Layout := T.cl_Layout
    have cl_Log := T.cl_Log
    have na_Device_layout := T.na_Device_layout
    have na_Layout_segments := T.na_Layout_segments
    have na_Log_layout := T.na_Log_layout
    obtain ⟨dx, fs, hg, F⟩ := hQ.obj
    have l1 := F.lay
    have hLy := hQ.sta.lay.mono hG
    obtain ⟨dxl, fsl, hl1, Fl⟩ := id hLy
    have m1 := Fl.seg
    have s0 := hC.s0
    have s16 := hC.s1
    walk_at "go"
    rename_i p0 n0 H1 s1 g1 p np H2 s2 g2
    have hQ2 : LogQ K T.A_Log T.A_Device T.A_Counts T.A_Layout L G H2 g u W := hQ.frame (Same.refl G) (fun x _ o h => (s1.trans s2) _ _ h) (Keeps.of (s1.trans s2))
    have hG2 : Same G H2 := hG.trans (s1.trans s2)
    walk_at "go"
    rename_i H3 lv ns s3 nlv glv hlive
    have nlen := live_len hC hV hlive
    have n0p : H p = none := s1.free np
    have sB : Same H (hid p H3) := same_hid ((s1.trans s2).trans s3) n0p
    have npl : p ≠ lv := fun z => by rw [← z, g2] at nlv; cases nlv
    refine r_forL (xs := ns.map V.int) (fun i σ' H' => ∃ v2 v3 : Option V, σ' = [some (.ref g), some (.ref p), v2, v3] ∧ Same (hid p H3) H' ∧ H' p = some (.lst ((cnL L (ns.take i)).map V.int))) ⟨_, _, rfl, hid_same, ?_⟩ (fun i σ' H' _ ⟨_, _, _, s, _⟩ => .of (s _ _ (by rw [hid_ne (Ne.symm npl)]; exact glv))) ?_ ?_
    · rw [s3 _ _ g2]
      have e : cnL L (ns.take 0) = List.replicate L.seg.toNat 0 := by
        unfold cnL cn
        rw [List.take_zero]
        exact List.eq_replicate_iff.mpr ⟨by rw [List.length_map, List.length_range], fun z hz => by obtain ⟨k, _, rfl⟩ := List.mem_map.mp hz; rfl⟩
      rw [e, List.map_replicate]
    · rintro i x σ' H4 hx ⟨v2, v3, rfl, s4, g4⟩
      rw [List.getElem?_map] at hx
      obtain ⟨z, hz, ex⟩ := Option.map_eq_some_iff.mp hx
      subst ex
      have hzl := (hlive.2 z).mp (List.mem_of_getElem? hz)
      obtain ⟨v1, v2'⟩ : 2 * L.reg ≤ z ∧ z < L.dev := (hV z hzl.1).resolve_left hzl.2
      have hg4 := (sB.trans s4) _ _ hg
      have hLy4 := hLy.mono (sB.trans s4)
      obtain ⟨e0, e1⟩ := segO_in hC v1 v2'
      unfold segO at e0 e1
      walk_at "go"
      refine r_ixl (.of g4) (at_ints e0 (by rw [cnL_len]; omega)) ?_
      walk_at "go"
      refine r_setl g4 (ixN_ok e0 (by rw [List.length_map, cnL_len]; omega)) ?_
      generalize hH5 : upd H4 _ _ = H5
      rw [set_ints] at hH5
      have et : ns.take (i + 1) = ns.take i ++ [z] := by rw [List.take_add_one, hz]; rfl
      refine ⟨_, _, rfl, fun b o hb => ?_, ?_⟩
      · rw [← hH5, upd_ne (fun e => by rw [e, hid_at] at hb; cases hb)]
        exact s4 _ _ hb
      · rw [← hH5, upd_same, et]
        exact congrArg (fun l => some (HO.lst (l.map V.int))) (cnL_snoc (L := L) (a := z) e0 e1)
    · rintro σ' H4 ⟨v2, v3, rfl, s4, g4⟩
      rw [List.length_map, List.take_length] at g4
      walk_at "go"
      exact q _ _ ns (sB.trans s4) n0p g4 hlive
def sp_candidates (w : World) (K : PySem.W.Frag) (C CD CC CL : Addr) : Sp := fun args_ H Q _ => ∃ (G : Hp) (g : Addr) (u : LU) (W : LgM) (L : Lay), args_ = [.ref g] ∧ LogQ K C CD CC CL L G H g u W ∧ Same G H ∧ LayC L ∧ WOk L W ∧ VaW L W ∧ W.queue.length ≤ 1000 ∧ ∀ H' l ns, Same H H' → H l = none → H' l = some (.lst ((candL L W ns).map V.int)) → IsLive W ns → Q (.ref l) H'
theorem i_candidates {w : World} {K : PySem.W.Frag} {C CD CC CL : Addr} {args_ : List V} {H : Hp} {Q : V → Hp → Prop} {E : XK} {G : Hp} {g : Addr} {u : LU} {W : LgM} {L : Lay} (ev : args_ = [.ref g]) (hQ : LogQ K C CD CC CL L G H g u W) (hG : Same G H) (hC : LayC L) (hW : WOk L W) (hV : VaW L W) (hql : W.queue.length ≤ 1000) (q : ∀ H' l ns, Same H H' → H l = none → H' l = some (.lst ((candL L W ns).map V.int)) → IsLive W ns → Q (.ref l) H') : sp_candidates w K C CD CC CL args_ H Q E := ⟨G, g, u, W, L, ev, hQ, hG, hC, hW, hV, hql, q⟩
local macro_rules | `(tactic| walk_at "ca1") => `(tactic| with_reducible (refine' Sg.i_candidates ?ev ?hQ ?hG ?hC ?hW ?hV ?hql ?_; (case ev => (with_unfolding_all rfl)); (case hQ => (with_unfolding_all walk_at "pr")); (case hG => (with_unfolding_all walk_at "pr")); (case hC => (with_unfolding_all walk_at "pr")); (case hW => (with_unfolding_all walk_at "pr")); (case hV => (with_unfolding_all walk_at "pr")); (case hql => (with_unfolding_all walk_at "pr")); intros))

theorem ok_candidates (T : Txt K mg) : FnOk P w K mg base CX0 3 T.a_candidates T.fd_candidates ["log"] (sp_candidates w K T.A_Log T.A_Device T.A_Counts T.A_Layout) := by
  refine T.F_candidates.ok sc_candidates (fun vs H Q E h => ?_) (fun cdv A outer s H vs Q E hr h => ?_)
  · obtain ⟨G, g, u, W, L, rfl, _⟩ := h
    rfl
  · refine ⟨_, (pss_one (ps_ret (pe_lc (own := [("segment", 1), ("live", 2)]) (g := gTup K 2 (gCons (gName 1) (gCons (gName 2) gNil)))  rfl sc_candidates.nd (pi_enumA (by rfl) T.n_enumerate (pa_cons (pe_call (ok_live_counts T) (hr.mono (by decide)) rfl T.m_live_counts T.F_live_counts.kp T.b_live_counts .nil pass0 (pa_cons (pv 0) pa_nil)) pa_nil)) (blkOk_by (own := [("segment", 1), ("live", 2)]) (N := n_candidates) (sc := defScope s_candidates) (by decide +kernel)) (fun _ _ _ _ _ => (pg_tup (by rfl) (pgs_cons (pg_name (i := 1) sc_candidates.nd rfl (Or.inl rfl)) (pgs_cons (pg_name (i := 2) sc_candidates.nd rfl (Or.inl rfl)) pgs_nil)))) (fun _ _ _ _ _ => pts_one (PW.pt (pw_and (pt_chain op_lt op_lt pe_int (pv 2) (pe_fldK K rfl (pe_fldK K rfl (pv 0) rfl) rfl)) (pw_and1 (pt_cmpR (op_notIn_seqK K rfl) (pv 1) (pe_fldK K rfl (pv 0) rfl) (by with_unfolding_all rfl)))))) (fun _ _ _ _ _ => (pv 1))))), ?_⟩
    try dsimp only [cxOf, Cx.nox, Cx.wish]
    obtain ⟨G, g, u, W, L, rfl, hQ, hG, hC, hW, hV, hql, q⟩ := h
    have cl_Device := T.cl_Device
    have cl_Layout := T.cl_Layout
    have cl_Log := T.cl_Log
    have na_Device_layout := T.na_Device_layout
    have na_Layout_payload := T.na_Layout_payload
    have na_Log_layout := T.na_Log_layout
    have na_Log_queue := T.na_Log_queue
    obtain ⟨dx, fs, hg, F⟩ := hQ.obj
    have l1 := F.lay
    have l2 := F.qa
    have hLy := hQ.sta.lay.mono hG
    have hqa := hG _ _ hQ.sta.qa
    have s0 := hC.s0
    have s16 := hC.s1
    refine r_ret ?_
    refine r_lc ?_
    refine r_ienumA ?_
    walk_at "go"
    rename_i H1 lc ns s1 nlc glc hlive
    refine r_kIeL (.of glc) ?_
    refine r_lcFE (xs := cnL L ns) (fun s => decide (0 < cn L ns s) && decide ((cn L ns s : Int) < L.pay) && !decide ((s : Int) ∈ W.queue)) (fun s => (s : Int)) (.of glc) (by rw [cnL_len]; omega) ?_ ?_
    · intro i x H2 H3 tp hx s2 nT hT R N hR hN
      have s3 : Same H2 H3 := Sg.Same.of_new hT nT
      have gT : H3 tp = some (.tup [.int (i : Nat), .int x]) := Sg.at_new hT
      have hi := (List.getElem?_eq_some_iff.mp hx).1
      rw [cnL_len] at hi
      have ex : x = (cn L ns i : Int) := by
        rw [← cnL_at hi, List.getD_eq_getElem?_getD, hx]
        rfl
      have s03 := s1.trans (s2.trans s3)
      have hg3 := s03 _ _ hg
      have hqa3 := s03 _ _ hqa
      obtain ⟨dxl, fsl, hl3, Fl⟩ := hLy.mono s03
      have m1 := Fl.pay
      subst ex
      walk_at "go"
      refine ⟨rfl, ?_⟩
      walk_at "go"
      refine r_ite (fun c1 => ?_) (fun c1 => ?_)
      · walk_at "go"
        refine r_ite (fun c2 => ?_) (fun c2 => ?_)
        · walk_at "go"
          refine r_in (.inl (.of hqa3)) rfl (flat_ints _) ?_
          rw [if_pos rfl, inV_ints]
          have e : decide (0 < cn L ns i) = true := decide_eq_true (by omega)
          have e2 : decide ((cn L ns i : Int) < L.pay) = true := decide_eq_true c2
          rw [e, e2] at hR hN
          rcases hd : decide ((i : Int) ∈ W.queue) with _ | _
          · rw [hd] at hR
            walk_at "go"
            exact hR rfl
          · rw [hd] at hN
            walk_at "go"
            exact hN rfl
        · walk_at "go"
          have e2 : decide ((cn L ns i : Int) < L.pay) = false := decide_eq_false c2
          exact hN (by rw [e2]; simp)
      · walk_at "go"
        have e2 : decide (0 < cn L ns i) = false := decide_eq_false (by omega)
        exact hN (by rw [e2]; rfl)
    · intro H2 l s2 nl gl
      rw [cnL_len] at gl
      walk_at "go"
      exact q _ _ ns (s1.trans s2) (s1.free nl) gl hlive
def sp_victims (w : World) (K : PySem.W.Frag) (C CD CC CL : Addr) : Sp := fun args_ H Q _ => ∃ (G : Hp) (g : Addr) (u : LU) (W : LgM) (L : Lay) (oa : Addr) (order : List Int), args_ = [.ref g, .ref oa] ∧ LogQ K C CD CC CL L G H g u W ∧ Same G H ∧ LayC L ∧ WOk L W ∧ VaW L W ∧ W.queue.length ≤ 1000 ∧ SqL K H oa (order.map V.int) ∧ order.length ≤ 1000 ∧ ∀ H' l ns, Same H H' → H l = none → H' l = some (.lst ((vicL (candL L W ns) W.head order).map V.int)) → IsLive W ns → Q (.ref l) H'
theorem i_victims {w : World} {K : PySem.W.Frag} {C CD CC CL : Addr} {args_ : List V} {H : Hp} {Q : V → Hp → Prop} {E : XK} {G : Hp} {g : Addr} {u : LU} {W : LgM} {L : Lay} {oa : Addr} {order : List Int} (ev : args_ = [.ref g, .ref oa]) (hQ : LogQ K C CD CC CL L G H g u W) (hG : Same G H) (hC : LayC L) (hW : WOk L W) (hV : VaW L W) (hql : W.queue.length ≤ 1000) (ho : SqL K H oa (order.map V.int)) (lo : order.length ≤ 1000) (q : ∀ H' l ns, Same H H' → H l = none → H' l = some (.lst ((vicL (candL L W ns) W.head order).map V.int)) → IsLive W ns → Q (.ref l) H') : sp_victims w K C CD CC CL args_ H Q E := ⟨G, g, u, W, L, oa, order, ev, hQ, hG, hC, hW, hV, hql, ho, lo, q⟩
local macro_rules | `(tactic| walk_at "ca1") => `(tactic| with_reducible (refine' Sg.i_victims ?ev ?hQ ?hG ?hC ?hW ?hV ?hql ?ho ?lo ?_; (case ev => (with_unfolding_all rfl)); (case hQ => (with_unfolding_all walk_at "pr")); (case hG => (with_unfolding_all walk_at "pr")); (case hC => (with_unfolding_all walk_at "pr")); (case hW => (with_unfolding_all walk_at "pr")); (case hV => (with_unfolding_all walk_at "pr")); (case hql => (with_unfolding_all walk_at "pr")); (case ho => (with_unfolding_all walk_at "pr")); (case lo => (with_unfolding_all walk_at "pr")); intros))

theorem ok_victims (T : Txt K mg) : FnOk P w K mg base CX0 4 T.a_victims T.fd_victims ["log", "order"] (sp_victims w K T.A_Log T.A_Device T.A_Counts T.A_Layout) := by
  refine T.F_victims.ok sc_victims (fun vs H Q E h => ?_) (fun cdv A outer s H vs Q E hr h => ?_)
  · obtain ⟨G, g, u, W, L, oa, order, rfl, _⟩ := h
    rfl
  · refine ⟨_, (pss_cons (ps_set (i := 2) sc_victims.nd rfl (Or.inl rfl) (pe_call (ok_candidates T) (hr.mono (by decide)) rfl T.m_candidates T.F_candidates.kp T.b_candidates .nil pass0 (pa_cons (pv 0) pa_nil)))
       (pss_cons (ps_set (i := 3) sc_victims.nd rfl (Or.inl rfl) (pe_lst pa_nil))
       (pss_cons (ps_for PassesOwn.never rfl (pi_list (pe_op op_cat (pe_callTy c_list (by rfl) T.n_list (by decide +kernel) (pa_cons (pv 1) pa_nil)) (pv 2))) (pg_name (i := 4) sc_victims.nd rfl (Or.inl rfl))
       (pss_one (ps_if (PW.pt (pw_and (pt_cmpR op_in_seq (pv 4) (pv 2) (by with_unfolding_all rfl)) (pw_and (pt_cmpR op_ne (pv 4) (pe_fld (pv 0) rfl) (nomark _)) (pw_and1 (pt_cmpR op_notIn_seq (pv 4) (pv 3) (by with_unfolding_all rfl))))))
       (pss_one (ps_expr (pe_bm PySem.F.plainAttrs_list PySem.F.slot_list_append PySem.F.type_list_append mt_append (pv 3) (pa_cons (pv 4) pa_nil))))
       pss_nil)))
       (C8.pss_cut (ps_if (pt_cmpR op_in_seq (pe_fld (pv 0) rfl) (pv 2) (by with_unfolding_all rfl))
       (pss_one (ps_expr (pe_bm PySem.F.plainAttrs_list PySem.F.slot_list_append PySem.F.type_list_append mt_append (pv 3) (pa_cons (pe_fld (pv 0) rfl) pa_nil))))
       pss_nil)
       (pss_one (ps_ret (pv 3))))))), ?_⟩
    try dsimp only [cxOf, Cx.nox, Cx.wish]
    obtain ⟨G, g, u, W, L, oa, order, rfl, hQ, hG, hC, hW, hV, hql, ho, lo, q⟩ := h
    have cl_Log := T.cl_Log
    have na_Log_head := T.na_Log_head
    obtain ⟨dx, fs, hg, F⟩ := hQ.obj
    have l2 := F.head
    have s0 := hC.s0
    have s16 := hC.s1
    walk_at "go"
    rename_i H1 fa ns s1 nfa gfa hlive p np H2 s2 gp qa nqa H3 s3 gqa
    have cl := candL_len (L := L) (W := W) (ns := ns)
    generalize hf : candL L W ns = found at gfa cl q
    refine r_catI gqa (s3 _ _ (s2 _ _ gfa)) AreI.map AreI.map (by omega) (fun H4 r s4 nr gr => ?_)
    have s24 : Same H2 H4 := s3.trans s4
    have np0 : H p = none := s1.free np
    have sB : Same H (hid p H4) := same_hid (s1.trans (s2.trans s24)) np0
    have npr : r ≠ p := fun z => by rw [z, s3 _ _ gp] at nr; cases nr
    have npf : fa ≠ p := fun z => by rw [← z, gfa] at np; cases np
    have grB : hid p H4 r = some (.lst ((order ++ found).map V.int)) := by rw [hid_ne npr]; exact gr
    have gfB : hid p H4 fa = some (.lst (found.map V.int)) := by rw [hid_ne npf]; exact s4 _ _ (s3 _ _ (s2 _ _ gfa))
    have gp4 := s24 _ _ gp
    have hBp : hid p H4 p = none := hid_at
    have sB4 : Same (hid p H4) H4 := hid_same
    generalize hid p H4 = HB at sB grB gfB hBp sB4
    walk_at "go"
    refine r_forL (xs := (order ++ found).map V.int) (fun i σ' H' => ∃ v4 : Option V, σ' = [some (.ref g), some (.ref oa), some (.ref fa), some (.ref p), v4] ∧ Same HB H' ∧ H' p = some (.lst ((vicN found W.head ((order ++ found).take i)).map V.int))) ⟨_, rfl, sB4, gp4⟩ (fun i σ' H' _ ⟨_, _, s, _⟩ => .of (s _ _ grB)) ?_ ?_
    · rintro i x σ' H5 hx ⟨v4, rfl, s5, g5⟩
      rw [List.getElem?_map] at hx
      obtain ⟨z, hz, ex⟩ := Option.map_eq_some_iff.mp hx
      subst ex
      have et : (order ++ found).take (i + 1) = (order ++ found).take i ++ [z] := by rw [List.take_add_one, hz]; rfl
      rw [et, vicN_snoc]
      obtain ⟨vn, vi⟩ := vicN_ok (found := found) (head := W.head) (xs := (order ++ found).take i)
      have vl : (vicN found W.head ((order ++ found).take i)).length ≤ 16 := nd_len 16 _ vn fun z hz => by
        have h := (vi z hz).1
        rw [← hf] at h
        have := candL_mem.mp h
        omega
      generalize vicN found W.head ((order ++ found).take i) = acc at g5 vl
      have gf5 := s5 _ _ gfB
      have hg5 := s5 _ _ (sB _ _ hg)
      walk_at "go"
      refine r_in (.inl (.of gf5)) rfl (flat_ints _) ?_
      rw [if_neg (by decide), inV_ints]
      walk_at "go"
      refine r_ite (fun c1 => ?_) (fun c1 => ?_)
      · walk_at "go"
        refine r_iteN (fun c2 => ?_) (fun c2 => ?_)
        · walk_at "go"
          refine r_in (.inl (.of g5)) rfl (flat_ints _) ?_
          rw [if_pos rfl, inV_ints]
          walk_at "go"
          unfold pick
          refine to_ite (fun c3 => ?_) (fun c3 => ?_)
          · have c3 : z ∉ acc := by simpa using c3
            rw [if_pos ⟨c1, c2, c3⟩]
            walk_at "go"
            rename_i H6 e6 g6
            refine ⟨_, rfl, Sg.Same.old s5 hBp e6, by rw [g6, List.map_append]; rfl⟩
          · have c3 : z ∈ acc := by simpa using c3
            rw [if_neg fun h => h.2.2 c3]
            walk_at "go"
            exact ⟨_, rfl, s5, g5⟩
        · walk_at "go"
          unfold pick
          rw [if_neg fun h => h.2.1 c2]
          exact ⟨_, rfl, s5, g5⟩
      · walk_at "go"
        unfold pick
        rw [if_neg fun h => c1 h.1]
        exact ⟨_, rfl, s5, g5⟩
    · rintro σ' H5 ⟨v4, rfl, s5, g5⟩
      rw [List.length_map, List.take_length] at g5
      have gf5 := s5 _ _ gfB
      have hg5 := s5 _ _ (sB _ _ hg)
      obtain ⟨vn, vi⟩ := vicN_ok (found := found) (head := W.head) (xs := order ++ found)
      have vl : (vicN found W.head (order ++ found)).length ≤ 16 := nd_len 16 _ vn fun z hz => by
        have h := (vi z hz).1
        rw [← hf] at h
        have := candL_mem.mp h
        omega
      walk_at "go"
      refine r_cut (fun σ' H' => σ' = [some (.ref g), some (.ref oa), some (.ref fa), some (.ref p), v4] ∧ Same HB H' ∧ H' p = some (.lst ((vicL found W.head order).map V.int))) ?_ ?_
      · walk_at "go"
        refine r_in (.inl (.of gf5)) rfl (flat_ints _) ?_
        rw [if_neg (by decide), inV_ints]
        walk_at "go"
        unfold vicL
        refine r_ite (fun c1 => ?_) (fun c1 => ?_)
        · rw [if_pos c1]
          walk_at "go"
          rename_i H6 e6 g6
          exact ⟨rfl, Sg.Same.old s5 hBp e6, by rw [g6, List.map_append]; rfl⟩
        · rw [if_neg c1, List.append_nil]
          walk_at "go"
          exact ⟨rfl, s5, g5⟩
      rintro σ' H6 ⟨rfl, s6, g6⟩
      walk_at "go"
      rw [← hf] at g6
      exact q _ _ ns (sB.trans s6) np0 (by rw [g6, hf]) hlive
def sp_cargo (w : World) (K : PySem.W.Frag) (C CD CC CL : Addr) : Sp := fun args_ H Q _ => ∃ (G : Hp) (g : Addr) (u : LU) (W : LgM) (L : Lay) (oa : Addr) (order : List Int), args_ = [.ref g, .ref oa] ∧ LogQ K C CD CC CL L G H g u W ∧ Same G H ∧ LayC L ∧ WOk L W ∧ VaW L W ∧ W.queue.length ≤ 1000 ∧ SqL K H oa (order.map V.int) ∧ order.length ≤ 1000 ∧ ∀ H' l ns, Same H H' → H l = none → H' l = some (.lst ((cargL L W ns order).map V.int)) → IsLive W ns → Q (.ref l) H'
theorem i_cargo {w : World} {K : PySem.W.Frag} {C CD CC CL : Addr} {args_ : List V} {H : Hp} {Q : V → Hp → Prop} {E : XK} {G : Hp} {g : Addr} {u : LU} {W : LgM} {L : Lay} {oa : Addr} {order : List Int} (ev : args_ = [.ref g, .ref oa]) (hQ : LogQ K C CD CC CL L G H g u W) (hG : Same G H) (hC : LayC L) (hW : WOk L W) (hV : VaW L W) (hql : W.queue.length ≤ 1000) (ho : SqL K H oa (order.map V.int)) (lo : order.length ≤ 1000) (q : ∀ H' l ns, Same H H' → H l = none → H' l = some (.lst ((cargL L W ns order).map V.int)) → IsLive W ns → Q (.ref l) H') : sp_cargo w K C CD CC CL args_ H Q E := ⟨G, g, u, W, L, oa, order, ev, hQ, hG, hC, hW, hV, hql, ho, lo, q⟩
local macro_rules | `(tactic| walk_at "ca1") => `(tactic| with_reducible (refine' Sg.i_cargo ?ev ?hQ ?hG ?hC ?hW ?hV ?hql ?ho ?lo ?_; (case ev => (with_unfolding_all rfl)); (case hQ => (with_unfolding_all walk_at "pr")); (case hG => (with_unfolding_all walk_at "pr")); (case hC => (with_unfolding_all walk_at "pr")); (case hW => (with_unfolding_all walk_at "pr")); (case hV => (with_unfolding_all walk_at "pr")); (case hql => (with_unfolding_all walk_at "pr")); (case ho => (with_unfolding_all walk_at "pr")); (case lo => (with_unfolding_all walk_at "pr")); intros))

theorem ok_cargo (T : Txt K mg) : FnOk P w K mg base CX0 5 T.a_cargo T.fd_cargo ["log", "order"] (sp_cargo w K T.A_Log T.A_Device T.A_Counts T.A_Layout) := by
  refine T.F_cargo.ok sc_cargo (fun vs H Q E h => ?_) (fun cdv A outer s H vs Q E hr h => ?_)
  · obtain ⟨G, g, u, W, L, oa, order, rfl, _⟩ := h
    rfl
  · refine ⟨_, (pss_cons (ps_set (i := 2) sc_cargo.nd rfl (Or.inl rfl) (pe_call (ok_live_addresses T) (hr.mono (by decide)) rfl T.m_live_addresses T.F_live_addresses.kp T.b_live_addresses .nil pass0 (pa_cons (pv 0) pa_nil)))
       (pss_cons (ps_set (i := 3) sc_cargo.nd rfl (Or.inl rfl) (pe_lst pa_nil))
       (pss_cons (ps_for PassesOwn.never rfl (pi_list (pe_call (ok_victims T) (hr.mono (by decide)) rfl T.m_victims T.F_victims.kp T.b_victims .nil pass0 (pa_cons (pv 0) (pa_cons (pv 1) pa_nil)))) (pg_name (i := 4) sc_cargo.nd rfl (Or.inr rfl))
       (pss_one (ps_expr (pe_bm PySem.F.plainAttrs_list PySem.F.slot_list_extend PySem.F.type_list_extend mt_extend (pv 3) (pa_cons (pe_lc (own := [("address", 5)]) (g := gName 5)  rfl sc_cargo.nd (pi_list (pv 2)) (blkOk_by (own := [("address", 5)]) (N := n_cargo) (sc := defScope s_cargo) (by decide +kernel)) (fun _ _ _ _ _ => pg_name (i := 5) sc_cargo.nd rfl (Or.inl rfl)) (fun _ _ _ _ _ => pts_one (pt_cmpR op_eq (pe_call (ok_segment_of T) (hr.mono (by decide)) rfl T.m_segment_of T.F_segment_of.kp T.b_segment_of .nil pass0 (pa_cons (pe_fldK K rfl (pv 0) rfl) (pa_cons (pv 5) pa_nil))) (pv 4) (nomark _))) (fun _ _ _ _ _ => (pv 5))) pa_nil)))))
       (pss_one (ps_ret (pe_slice sl_list (pv 3) po_none (po_some (pe_fld (pe_fld (pv 0) rfl) rfl)))))))), ?_⟩
    try dsimp only [cxOf, Cx.nox, Cx.wish]
    obtain ⟨G, g, u, W, L, oa, order, rfl, hQ, hG, hC, hW, hV, hql, ho, lo, q⟩ := h
    have cl_Device := T.cl_Device
    have cl_Layout := T.cl_Layout
    have cl_Log := T.cl_Log
    have na_Device_layout := T.na_Device_layout
    have na_Layout_payload := T.na_Layout_payload
    have na_Log_layout := T.na_Log_layout
    obtain ⟨dx, fs, hg, F⟩ := hQ.obj
    have l1 := F.lay
    have hLy := hQ.sta.lay.mono hG
    have s0 := hC.s0
    have s16 := hC.s1
    walk_at "go"
    rename_i H1 lv ns s1 nlv glv hlive p np H2 s2 gp
    have s12 := s1.trans s2
    have hQ2 : LogQ K T.A_Log T.A_Device T.A_Counts T.A_Layout L G H2 g u W := hQ.frame (Same.refl G) (fun x _ o h => s12 _ _ h) (Keeps.of s12)
    have hG2 : Same G H2 := hG.trans s12
    have ho2 := s12.seq ho
    have nlen := live_len hC hV hlive
    walk_at "go"
    rename_i H3 va ns2 s3 nva gva hlive2
    have e2 := live_uniq hlive2 hlive
    subst e2
    obtain ⟨vn, vi⟩ := vicL_ok (found := candL L W ns2) (head := W.head) (order := order)
    have vl : (vicL (candL L W ns2) W.head order).length ≤ 16 := nd_len 16 _ vn fun z hz => by
      have := candL_mem.mp (vi z hz)
      omega
    have q2 : ∀ H' l, Same H H' → H l = none → H' l = some (.lst ((cargL L W ns2 order).map V.int)) → Q (.ref l) H' := fun H' l a b c => q H' l ns2 a b c hlive2
    clear q
    unfold cargL at q2
    generalize vicL (candL L W ns2) W.head order = vs at gva vn vl q2
    have np0 : H p = none := s1.free np
    have sB : Same H (hid p H3) := same_hid (s12.trans s3) np0
    have npv : va ≠ p := fun z => by rw [z, gp] at nva; cases nva
    have npl : lv ≠ p := fun z => by rw [← z, glv] at np; cases np
    have gvB : hid p H3 va = some (.lst (vs.map V.int)) := by rw [hid_ne npv]; exact gva
    have glB : hid p H3 lv = some (.lst (ns2.map V.int)) := by rw [hid_ne npl]; exact s3 _ _ (s2 _ _ glv)
    have gp3 := s3 _ _ gp
    have hBp : hid p H3 p = none := hid_at
    have sB3 : Same (hid p H3) H3 := hid_same
    generalize hid p H3 = HB at sB gvB glB hBp sB3
    refine r_forL (xs := vs.map V.int) (fun i σ' H' => ∃ v4 : Option V, σ' = [some (.ref g), some (.ref oa), some (.ref lv), some (.ref p), v4, none] ∧ Same HB H' ∧ H' p = some (.lst ((cargA L ns2 (vs.take i)).map V.int))) ⟨_, rfl, sB3, gp3⟩ (fun i σ' H' _ ⟨_, _, s, _⟩ => .of (s _ _ gvB)) ?_ ?_
    · rintro i x σ' H5 hx ⟨v4, rfl, s5, g5⟩
      rw [List.getElem?_map] at hx
      obtain ⟨z, hz, ex⟩ := Option.map_eq_some_iff.mp hx
      subst ex
      have hi := (List.getElem?_eq_some_iff.mp hz).1
      have et : vs.take (i + 1) = vs.take i ++ [z] := by rw [List.take_add_one, hz]; rfl
      rw [et, cargA_snoc]
      have cl := cargA_len (L := L) (ns := ns2) (vs.take i)
      have cl2 : (cargA L ns2 (vs.take i)).length ≤ 16 * 1000 := Nat.le_trans cl (Nat.mul_le_mul (by rw [List.length_take]; omega) nlen)
      generalize cargA L ns2 (vs.take i) = acc at g5 cl2
      have gl5 := s5 _ _ glB
      walk_at "go"
      refine r_lcFLX (fun a => decide (segO L a = z)) (.of gl5) (by omega) rfl (by simp) ?_ ?_
      · intro a H6 ha s6 R hR
        have hzl := (hlive2.2 a).mp ha
        obtain ⟨w1, w2⟩ : 2 * L.reg ≤ a ∧ a < L.dev := (hV a hzl.1).resolve_left hzl.2
        have hg6 := s6 _ _ (s5 _ _ (sB _ _ hg))
        have hLy6 := hLy.mono (sB.trans (s5.trans s6))
        walk_at "go"
        exact hR
      · intro H6 l s6 nl gl
        have g6 := s6 _ _ g5
        walk_at "go"
        refine r_extI g6 gl AreI.map AreI.map (by have := List.length_filter_le (fun a => decide (segO L a = z)) ns2; omega) (fun H7 e7 g7 => ?_)
        walk_at "go"
        exact ⟨_, rfl, Sg.Same.old (s5.trans s6) hBp e7, g7⟩
    · rintro σ' H5 ⟨v4, rfl, s5, g5⟩
      rw [List.length_map, List.take_length] at g5
      have hg5 := s5 _ _ (sB _ _ hg)
      obtain ⟨dxl, fsl, hl5, Fl⟩ := hLy.mono (sB.trans s5)
      have m1 := Fl.pay
      have cl := cargA_len (L := L) (ns := ns2) vs
      have cl2 : (cargA L ns2 vs).length ≤ 16 * 1000 := Nat.le_trans cl (Nat.mul_le_mul vl nlen)
      generalize cargA L ns2 vs = acc at g5 cl2 q2
      have pay := hC.pay
      have b0 := hC.b0
      have b1 := hC.b1
      walk_at "go"
      rename_i H6 l s6 nl gl
      exact q2 _ _ ((sB.trans s5).trans s6) ((sB.trans s5).free nl) gl
def sp_fill (w : World) (K : PySem.W.Frag) (C CD CC CL : Addr) : Sp := fun args_ H Q _ => ∃ (G : Hp) (g : Addr) (u : LU) (W : LgM) (L : Lay) (D : List (Option BD)) (oa : Addr) (order : List Int), args_ = [.ref g, .ref oa] ∧ LogQ K C CD CC CL L G H g u W ∧ Frm (mutL g u) G H ∧ LayC L ∧ Fit L W D ∧ Blks K H W.m.shown D ∧ SqL K H oa (order.map V.int) ∧ order.length ≤ 1000 ∧ W.m.wait.length ≤ 70000 ∧ ((∀ ns, IsLive W ns → (cargL L W ns order = [] ∨ W.queue = [] ∨ none ∈ (cargL L W ns order).map (fun a => payD (readD D a))) → ∀ H', Same H H' → Q (.bl false) H')) ∧ ∀ ns h t pls, IsLive W ns → cargL L W ns order ≠ [] → W.queue = h :: t → (cargL L W ns order).map (fun a => payD (readD D a)) = pls.map some → ∀ G' H' u' m1 c1 m2 c2 ns1, IsLive { takeW L (enterW W h t) ⟨2, W.last + 1, 0, .ints (cargL L W ns order)⟩ with m := m1, cs := c1 } ns1 → LogS K C CD CC CL L g G H u G' H' u' { ckW L { takeW L (enterW W h t) ⟨2, W.last + 1, 0, .ints (cargL L W ns order)⟩ with m := m1, cs := c1 } ns1 with m := m2, cs := c2 } → MS L.dev.toNat 100 W.m m2 → Blks K H' m2.shown (ckDW L (ckW L { takeW L (enterW W h t) ⟨2, W.last + 1, 0, .ints (cargL L W ns order)⟩ with m := m1, cs := c1 } ns1) (writeD L (enterW W h t) ⟨2, W.last + 1, 0, .ints (cargL L W ns order)⟩ pls D)) → Q (.bl true) H'
theorem i_fill {w : World} {K : PySem.W.Frag} {C CD CC CL : Addr} {args_ : List V} {H : Hp} {Q : V → Hp → Prop} {E : XK} {G : Hp} {g : Addr} {u : LU} {W : LgM} {L : Lay} {D : List (Option BD)} {oa : Addr} {order : List Int} (ev : args_ = [.ref g, .ref oa]) (hQ : LogQ K C CD CC CL L G H g u W) (hF : Frm (mutL g u) G H) (hC : LayC L) (hT : Fit L W D) (hB : Blks K H W.m.shown D) (ho : SqL K H oa (order.map V.int)) (lo : order.length ≤ 1000) (hw : W.m.wait.length ≤ 70000) (qf : (∀ ns, IsLive W ns → (cargL L W ns order = [] ∨ W.queue = [] ∨ none ∈ (cargL L W ns order).map (fun a => payD (readD D a))) → ∀ H', Same H H' → Q (.bl false) H')) (qt : ∀ ns h t pls, IsLive W ns → cargL L W ns order ≠ [] → W.queue = h :: t → (cargL L W ns order).map (fun a => payD (readD D a)) = pls.map some → ∀ G' H' u' m1 c1 m2 c2 ns1, IsLive { takeW L (enterW W h t) ⟨2, W.last + 1, 0, .ints (cargL L W ns order)⟩ with m := m1, cs := c1 } ns1 → LogS K C CD CC CL L g G H u G' H' u' { ckW L { takeW L (enterW W h t) ⟨2, W.last + 1, 0, .ints (cargL L W ns order)⟩ with m := m1, cs := c1 } ns1 with m := m2, cs := c2 } → MS L.dev.toNat 100 W.m m2 → Blks K H' m2.shown (ckDW L (ckW L { takeW L (enterW W h t) ⟨2, W.last + 1, 0, .ints (cargL L W ns order)⟩ with m := m1, cs := c1 } ns1) (writeD L (enterW W h t) ⟨2, W.last + 1, 0, .ints (cargL L W ns order)⟩ pls D)) → Q (.bl true) H') : sp_fill w K C CD CC CL args_ H Q E := ⟨G, g, u, W, L, D, oa, order, ev, hQ, hF, hC, hT, hB, ho, lo, hw, qf, qt⟩
local macro_rules | `(tactic| walk_at "ca1") => `(tactic| with_reducible (refine' Sg.i_fill ?ev ?hQ ?hF ?hC ?hT ?hB ?ho ?lo ?hw ?qf ?qt; (case ev => (with_unfolding_all rfl)); (case hQ => (with_unfolding_all walk_at "pr")); (case hF => (with_unfolding_all walk_at "pr")); (case hC => (with_unfolding_all walk_at "pr")); (case hT => (with_unfolding_all walk_at "pr")); (case hB => (with_unfolding_all walk_at "pr")); (case ho => (with_unfolding_all walk_at "pr")); (case lo => (with_unfolding_all walk_at "pr")); (case hw => (with_unfolding_all walk_at "pr"))))

theorem ok_fill (T : Txt K mg) : FnOk P w K mg base CX0 6 T.a_fill T.fd_fill ["log", "order"] (sp_fill w K T.A_Log T.A_Device T.A_Counts T.A_Layout) := by
  refine T.F_fill.ok sc_fill (fun vs H Q E h => ?_) (fun cdv A outer s H vs Q E hr h => ?_)
  · obtain ⟨G, g, u, W, L, D, oa, order, rfl, _⟩ := h
    rfl
  · refine ⟨_, (pss_cons (ps_set (i := 2) sc_fill.nd rfl (Or.inl rfl) (pe_call (ok_cargo T) (hr.mono (by decide)) rfl T.m_cargo T.F_cargo.kp T.b_cargo .nil pass0 (pa_cons (pv 0) (pa_cons (pv 1) pa_nil))))
       (C8.pss_cut (ps_if (PW.pt (pw_or (pt_not (pt_truth (pv 2) (by intro _; rfl))) (pw_or1 (pt_not (pt_val (pe_call (ok_append_move T) (hr.mono (by decide)) rfl T.m_append_move T.F_append_move.kp T.b_append_move .nil pass0 (pa_cons (pv 0) (pa_cons (pv 2) pa_nil))))))))
       (pss_one (ps_ret pe_bl))
       pss_nil)
       (pss_cons (ps_expr (pe_call (ok_write_checkpoint T) (hr.mono (by decide)) rfl T.m_write_checkpoint T.F_write_checkpoint.kp T.b_write_checkpoint .nil pass0 (pa_cons (pv 0) pa_nil)))
       (pss_one (ps_ret pe_bl))))), ?_⟩
    try dsimp only [cxOf, Cx.nox, Cx.wish]
    obtain ⟨G, g, u, W, L, D, oa, order, rfl, hQ, hF, hC, hT, hB, ho, lo, hw, qf, qt⟩ := h
    have hW := hT.ok
    have hV := hT.va
    have hG := hF.gh
    have qlen := hT.ql
    have s16 := hC.s1
    have pay := hC.pay
    have b0 := hC.b0
    have b1 := hC.b1
    have r1 := hC.r1
    have r0 := hC.r0
    walk_at "go"
    rename_i H1 ca ns s1 nca gca hlive
    have cl : (cargL L W ns order).length ≤ L.pay.toNat := by unfold cargL; rw [List.length_take]; omega
    have qf' := qf ns hlive
    have qt' := fun h t pls => qt ns h t pls hlive
    clear qf qt
    generalize cargL L W ns order = C at gca cl qf' qt'
    have S1 := hQ.grew hF s1
    have caG : grow G H H1 ca = some (.lst (C.map V.int)) := by rw [grow_new nca]; exact gca
    have B1 := hB.keeps (Keeps.of s1)
    have lC : C.length ≤ 4000 := by omega
    have hw1 : W.m.wait.length ≤ 80000 := by omega
    refine r_cut (fun σ' H' => σ' = [some (.ref g), some (.ref oa), some (.ref ca)] ∧ C ≠ [] ∧ ∃ (h : Int) (t : List Int) (pls : List (Int × Body)) (G' : Hp) (u' : LU) (m1 : DevM) (c1 : Cn), W.queue = h :: t ∧ (C.length : Int) ≤ L.pay ∧ C.map (fun a => payD (readD D a)) = pls.map some ∧ LogS K T.A_Log T.A_Device T.A_Counts T.A_Layout L g G H u G' H' u' { takeW L (enterW W h t) ⟨2, W.last + 1, 0, .ints C⟩ with m := m1, cs := c1 } ∧ MS L.dev.toNat 33 W.m m1 ∧ Blks K H' m1.shown (writeD L (enterW W h t) ⟨2, W.last + 1, 0, .ints C⟩ pls D)) ?_ ?_
    · walk_at "go"
      cases hCe : C with
      | nil =>
        rw [hCe] at gca qf'
        refine ⟨false, .inl ⟨_, .of gca, rfl⟩, ?_⟩
        walk_at "go"
        exact qf' (.inl rfl) _ s1
      | cons c0 ct =>
        refine ⟨true, .inl ⟨_, .of gca, by rw [hCe]; rfl⟩, ?_⟩
        rw [← hCe]
        walk_at "go"
        refine i_append_move (W := W) (L := L) (D := D) (ids := C) rfl S1.q S1.st.frm hC hT.ok hT.q (.of caG) B1 lC hw1 (fun hc H2 s2 => ?_) (fun h t pls hqu hpay hpl G2 H2 u2 m2 S2 ms2 B2 => ?_)
        · walk_at "go"
          refine qf' ?_ _ (s1.trans s2)
          rcases hc with hc | hc | hc
          · exact .inr (.inl hc)
          · omega
          · exact .inr (.inr hc)
        · have lpl : pls.length = C.length := by
            have := congrArg List.length hpl
            rw [List.length_map, List.length_map] at this
            exact this.symm
          walk_at "go"
          exact ⟨rfl, by rw [hCe]; exact fun z => (by cases z), h, t, pls, _, _, _, _, hqu, hpay, hpl, S1.trans S2, ms2.mono (by omega), B2⟩
    rintro σ' H2 ⟨rfl, ne, h, t, pls, G2, u2, m1, c1, hqu, hlen, hpl, S2, ms2, B2⟩
    have f1 : Fit L { takeW L (enterW W h t) ⟨2, W.last + 1, 0, .ints C⟩ with m := m1, cs := c1 } (writeD L (enterW W h t) ⟨2, W.last + 1, 0, .ints C⟩ pls D) := ((hT.enter hqu).take hC (d := ⟨2, W.last + 1, 0, .ints C⟩) (by show 0 + 1 + (C.length : Int) ≤ L.blk; omega) (fun _ _ _ e => by cases e)).re rfl rfl rfl rfl rfl rfl
    have wt2 := ms2.wt
    walk_at "go"
    refine i_write_checkpoint (D := writeD L (enterW W h t) ⟨2, W.last + 1, 0, .ints C⟩ pls D) rfl S2.q S2.st.frm hC (f1.win hC) B2 (by show m1.wait.length ≤ 80000; omega) (fun G3 H3 u3 m3 ns1 lv1 S3 ms3 wz B3 => ?_)
    walk_at "go"
    exact qt' h t pls ne hqu hpl _ _ _ _ _ _ _ ns1 lv1 (S2.trans S3) ((ms2.trans ms3).mono (by omega)) B3

local macro_rules | `(tactic| walk_at "rx1") => `(tactic| with_reducible (first | refine' Sg.r_prop ?_ | (refine' Sg.r_kprop ?h ?_; (case h => (with_unfolding_all walk_at "hp"))) | refine' Sg.r_irev ?_ | (refine' Sg.r_kIv ?h ?_; (case h => (with_unfolding_all walk_at "hp"))) | refine' Sg.r_makeN ?_ | refine' Sg.r_callN ?_ | refine' Sg.r_makeSD ?_ | refine' Sg.r_callSD ?_ | refine' Sg.r_methSD ?_ | (refine' Sg.r_kmethSD ?h ?hl ?_; (case h => (with_unfolding_all walk_at "hp")); (case hl => (with_unfolding_all walk_at "lk"))) | refine' Sg.r_tryA ?_ | refine' Sg.r_din ?_ | refine' Sg.r_kdi ?_ | (refine' Sg.r_kdi2 ?h ?_; (case h => (with_unfolding_all walk_at "hp"))) | (refine' Sg.r_kdi2f ?h ?_; (case h => assumption)) | refine' Sg.r_dnotin ?_ | refine' Sg.r_kdn ?_ | (refine' Sg.r_kdn2 ?h ?_; (case h => (with_unfolding_all walk_at "hp"))) | refine' Sg.r_dget ?_ | refine' Sg.r_kdg ?_ | refine' Sg.r_dget1 ?_ | (refine' Sg.r_kdt ?h ?_; (case h => (with_unfolding_all walk_at "hp"))) | (refine' Sg.r_kdt2 ?h ?_; (case h => (with_unfolding_all walk_at "hp"))) | refine' Sg.r_dput ?_ | refine' Sg.r_kdp ?_ | refine' Sg.r_kdp2 ?_ | (refine' Sg.r_kdp3 ?h ?hl ?_; (case h => (with_unfolding_all walk_at "hp")); (case hl => (with_unfolding_all walk_at "side")); (with_unfolding_all walk_at "up")) | refine' Sg.r_ddel ?_ | refine' Sg.r_kdd ?_ | refine' Sg.r_dpop1 ?_ | (refine' Sg.r_kdo ?h ?_; (case h => (with_unfolding_all walk_at "hp"))) | refine' Sg.r_ikeys ?_ | (refine' Sg.r_kIk ?h ?_; (case h => assumption)) | (refine' Sg.r_dnew ?_; (with_unfolding_all walk_at "al")) | (refine' Sg.r_lenD ?h ?_; (case h => (with_unfolding_all walk_at "hp"))) | (refine' Sg.r_dictD ?h ?_; (case h => (with_unfolding_all walk_at "hp")); (with_unfolding_all walk_at "al"))))
local macro_rules | `(tactic| walk_at "rx") => `(tactic| repeat (first | walk_at "rd1" | walk_at "rx1"))
/-! ### live addresses by the law, from a log -/
def sp_law_live (K : PySem.W.Frag) (C CD CC CL : Addr) : Sp := fun args_ H Q _ => ∃ (G : Hp) (g : Addr) (u : LU) (W : LgM) (L : Lay), args_ = [.ref g] ∧ LogQ K C CD CC CL L G H g u W ∧ Same G H ∧ LayC L ∧ WOk L W ∧ ∀ H' l ns, Same H H' → H l = none → H' l = some (.lst (ns.map V.int)) → IsLive W ns → Q (.ref l) H'
theorem i_law_live {K : PySem.W.Frag} {C CD CC CL : Addr} {args_ : List V} {H : Hp} {Q : V → Hp → Prop} {E : XK} {G : Hp} {g : Addr} {u : LU} {W : LgM} {L : Lay} (ev : args_ = [.ref g]) (hQ : LogQ K C CD CC CL L G H g u W) (hG : Same G H) (hC : LayC L) (hW : WOk L W) (q : ∀ H' l ns, Same H H' → H l = none → H' l = some (.lst (ns.map V.int)) → IsLive W ns → Q (.ref l) H') : sp_law_live K C CD CC CL args_ H Q E := ⟨G, g, u, W, L, ev, hQ, hG, hC, hW, q⟩
local macro_rules | `(tactic| walk_at "ca1") => `(tactic| with_reducible (refine' Sg.i_law_live ?ev ?hQ ?hG ?hC ?hW ?_; (case ev => (with_unfolding_all rfl)); (case hQ => (with_unfolding_all walk_at "pr")); (case hG => (with_unfolding_all walk_at "pr")); (case hC => (with_unfolding_all walk_at "pr")); (case hW => (with_unfolding_all walk_at "pr")); intros))

theorem ok_law_live (T : Txt K mg) : FnOk P w K mg base CX0 1 T.a_law_live T.fd_law_live ["log"] (sp_law_live K T.A_Log T.A_Device T.A_Counts T.A_Layout) := by
  refine T.F_law_live.ok sc_law_live (fun vs H Q E h => ?_) (fun cdv A outer s H vs Q E hr h => ?_)
  · obtain ⟨G, g, u, W, L, rfl, _⟩ := h
    rfl
  · refine ⟨_, (pss_cons (ps_set (i := 1) sc_law_live.nd rfl (Or.inl rfl) pe_dnewK)
       (pss_cons (ps_for PassesOwn.never rfl (pi_list (pe_op op_cat (pe_lst (pa_cons (pe_fld (pv 0) rfl) pa_nil)) (pe_fld (pv 0) rfl))) (pg_name (i := 2) sc_law_live.nd rfl (Or.inl rfl))
       (pss_one (ps_if (pt_cmp (pc_notN (pv 2)) rfl)
       (pss_one (ps_for PassesOwn.never rfl (pi_list (pv 2)) (pg_name (i := 3) sc_law_live.nd rfl (Or.inl rfl))
       (pss_one (ps_if (pt_cmpR op_ne (pv 3) pe_int (nomark _))
       (pss_one (ps_dput (hu_of hr) (pv 1) (pv 3) pe_bl rfl))
       pss_nil))))
       pss_nil)))
       (pss_one (ps_ret (pe_callB (c_sortDO rfl) (by rfl) T.n_sorted (by decide +kernel) (pa_cons (pv 1) pa_nil)))))), ?_⟩
    try dsimp only [cxOf, Cx.nox, Cx.wish]
    obtain ⟨G, g, u, W, L, rfl, hQ, hG, hC, hW, q⟩ := h
    have cl_Log := T.cl_Log
    have na_Log_present := T.na_Log_present
    have na_Log_slots := T.na_Log_slots
    obtain ⟨dx, fs, hg, F⟩ := hQ.obj
    have l1 := F.pr
    have l2 := F.sl
    have hpr := hG _ _ hQ.sta.pr
    have hsl := hG _ _ hQ.sta.sl
    have hss := hQ.sta.sls.mono hG
    have c0 := hC.l0
    have c1 := hC.l1
    have pl := hW.pl
    have stl := hW.st
    have vl : u.vs.length = 3 := by rw [Paired.length hss]; exact hW.sl
    walk_at "go"
    rename_i d nd H1 s1 gd p1 n1 H2 s2 g2 p2 n2 H3 s3 g3
    have s03 : Same H (hid d H3) := same_hid (s1.trans (s2.trans s3)) nd
    have dp : p2 ≠ d := fun z => by rw [z, s2 _ _ gd] at n2; cases n2
    have g2' : hid d H3 p2 = some (.lst ([.ref u.pr] ++ u.vs)) := by rw [hid_ne dp]; exact g3
    have gd3 : H3 d = some (.dK []) := s3 _ _ (s2 _ _ gd)
    have hBd : hid d H3 d = none := hid_at
    have sB : Same (hid d H3) H3 := hid_same
    generalize hid d H3 = HB at s03 g2' hBd sB
    have hTS : Paired (SlotIs H) ([.ref u.pr] ++ u.vs) (some W.present :: W.slots) := .cons ⟨u.pr, rfl, hpr⟩ hss
    have lTS : ∀ tb, some tb ∈ some W.present :: W.slots → tb.length ≤ 466 := fun tb h => by
      rcases List.mem_cons.mp h with e | e
      · cases e; omega
      · have := stl tb e; omega
    have xl : ([V.ref u.pr] ++ u.vs).length = 4 := by rw [List.length_append, vl]; rfl
    have tl : (some W.present :: W.slots).length = 4 := by rw [List.length_cons, hW.sl]
    have liveT : ∀ a, (∃ tb, some tb ∈ some W.present :: W.slots ∧ a ∈ tb) ↔ InW W a := fun a => by
      constructor
      · rintro ⟨tb, h, k⟩
        rcases List.mem_cons.mp h with e | e
        · cases e; exact .inl k
        · exact .inr ⟨tb, e, k⟩
      · rintro (h | ⟨tb, h, k⟩)
        · exact ⟨_, List.mem_cons_self .., h⟩
        · exact ⟨tb, List.mem_cons_of_mem _ h, k⟩
    generalize some W.present :: W.slots = TS at hTS lTS tl liveT
    refine r_forL (xs := [.ref u.pr] ++ u.vs) (fun i σ' H' => ∃ (v2 v3 : Option V) (kvs : List (Key × V)) (ks : List Int), σ' = [some (.ref g), some (.ref d), v2, v3] ∧ Same HB H' ∧ H' d = some (.dK kvs) ∧ kvs.map (·.1) = ks.map Sum.inl ∧ ks.Nodup ∧ ks.length ≤ 466 * i ∧ ∀ a, a ∈ ks ↔ (a ≠ 0 ∧ ∃ tb, some tb ∈ TS.take i ∧ a ∈ tb)) ⟨_, _, [], [], rfl, sB, gd3, rfl, List.nodup_nil, Nat.zero_le _, by simp⟩ (fun i σ' H' _ ⟨_, _, _, _, _, s, _⟩ => .of (s _ _ g2')) ?_ ?_
    · rintro i x σ' H4 hx ⟨v2, v3, kvs, ks, rfl, s4, gd4, hk, nk, lk, hks⟩
      have hi4 := (List.getElem?_eq_some_iff.mp hx).1
      rw [xl] at hi4
      obtain ⟨o, eo, hi⟩ := paired_at hTS hx
      have et : TS.take (i + 1) = TS.take i ++ [o] := by rw [List.take_add_one, eo]; rfl
      cases o with
      | none =>
        cases hi
        walk_at "go"
        refine ⟨_, _, kvs, ks, rfl, s4, gd4, hk, nk, by omega, fun a => ?_⟩
        rw [hks, et]
        simp
      | some tb =>
        obtain ⟨y, rfl, hy⟩ := hi
        have hy4 := s4 _ _ (s03 _ _ hy)
        have ln := lTS tb (List.mem_of_getElem? eo)
        walk_at "go"
        refine r_forL (xs := tb.map V.int) (fun j σ' H' => ∃ (v3 : Option V) (kvs : List (Key × V)) (ks : List Int), σ' = [some (.ref g), some (.ref d), some (.ref y), v3] ∧ Same HB H' ∧ H' d = some (.dK kvs) ∧ kvs.map (·.1) = ks.map Sum.inl ∧ ks.Nodup ∧ ks.length ≤ 466 * i + j ∧ ∀ a, a ∈ ks ↔ (a ≠ 0 ∧ ((∃ tb', some tb' ∈ TS.take i ∧ a ∈ tb') ∨ a ∈ tb.take j))) ⟨_, kvs, ks, rfl, s4, gd4, hk, nk, by omega, fun a => by rw [hks]; simp⟩ (fun j σ' H' _ ⟨_, _, _, _, s, _⟩ => .of (s _ _ (s03 _ _ hy))) ?_ ?_
        · rintro j x σ' H5 hx ⟨v3, kvs, ks, rfl, s5, gd5, hk, nk, lk, hks⟩
          have hj := (List.getElem?_eq_some_iff.mp hx).1
          rw [List.length_map] at hj
          rw [List.getElem?_map] at hx
          obtain ⟨z, hz, rfl⟩ := Option.map_eq_some_iff.mp hx
          have tz : tb.take (j + 1) = tb.take j ++ [z] := by rw [List.take_add_one, hz]; rfl
          have kl : kvs.length ≤ 100000 := by
            have := congrArg List.length hk
            rw [List.length_map, List.length_map] at this
            omega
          walk_at "go"
          refine r_iteN (fun c => ?_) (fun c => ?_)
          · walk_at "go"
            rename_i H6 e6 g6
            refine ⟨_, _, insK ks z, rfl, Sg.Same.old s5 hBd e6, g6, keys_put hk, insK_nd nk, by have := insK_len (ks := ks) (z := z); omega, fun a => ?_⟩
            rw [insK_mem, hks, tz]
            constructor
            · rintro (⟨h1, h2⟩ | rfl)
              · exact ⟨h1, h2.imp_right (List.mem_append_left _)⟩
              · exact ⟨c, .inr (List.mem_append_right _ (List.mem_singleton.mpr rfl))⟩
            · rintro ⟨h1, h2 | h2⟩
              · exact .inl ⟨h1, .inl h2⟩
              · rcases List.mem_append.mp h2 with h2 | h2
                · exact .inl ⟨h1, .inr h2⟩
                · exact .inr (List.mem_singleton.mp h2)
          · walk_at "go"
            refine ⟨_, kvs, ks, rfl, s5, gd5, hk, nk, by omega, fun a => ?_⟩
            rw [hks, tz]
            constructor
            · rintro ⟨h1, h2⟩
              exact ⟨h1, h2.imp_right (List.mem_append_left _)⟩
            · rintro ⟨h1, h2 | h2⟩
              · exact ⟨h1, .inl h2⟩
              · rcases List.mem_append.mp h2 with h2 | h2
                · exact ⟨h1, .inr h2⟩
                · exact absurd ((List.mem_singleton.mp h2).trans c) h1
        · rintro σ' H5 ⟨v3, kvs, ks, rfl, s5, gd5, hk, nk, lk, hks⟩
          rw [List.length_map] at lk hks
          rw [List.take_length] at hks
          refine ⟨_, _, kvs, ks, rfl, s5, gd5, hk, nk, by omega, fun a => ?_⟩
          rw [hks, et]
          constructor
          · rintro ⟨h1, ⟨tb', h2, h3⟩ | h2⟩
            · exact ⟨h1, tb', List.mem_append_left _ h2, h3⟩
            · exact ⟨h1, tb, List.mem_append_right _ (List.mem_singleton.mpr rfl), h2⟩
          · rintro ⟨h1, tb', h2, h3⟩
            rcases List.mem_append.mp h2 with h2 | h2
            · exact ⟨h1, .inl ⟨tb', h2, h3⟩⟩
            · have e := List.mem_singleton.mp h2
              cases e
              exact ⟨h1, .inr h3⟩
    · rintro σ' H4 ⟨v2, v3, kvs, ks, rfl, s4, gd4, hk, nk, lk, hks⟩
      rw [xl] at lk hks
      rw [List.take_of_length_le (by rw [tl]; exact Nat.le_refl 4)] at hks
      walk_at "go"
      refine ⟨d, kvs, ks, rfl, .inl gd4, hk, by omega, fun ys p hp hs np => ?_⟩
      generalize hH5 : upd H4 p _ = H5
      walk_at "go"
      have s5 := Same.of_new hH5 np
      refine q _ _ ys (s03.trans (s4.trans s5)) ((s03.trans s4).free np) (Sg.at_new hH5) ⟨lt_of_le_nodup ys hs (hp.nodup_iff.mpr nk), fun a => ?_⟩
      rw [hp.mem_iff, hks, liveT]
      exact ⟨fun ⟨h1, h2⟩ => ⟨h2, h1⟩, fun ⟨h1, h2⟩ => ⟨h2, h1⟩⟩

section
open PySem PySem.Spec PyProof.Rows
/-! ### (x,) * k with k from 0 -/
theorem tuple_mul1 (l : Addr) (items : Array Value) (n : Nat) (dd : Option Addr) (sl : Array (Option Value)) (u : Tok) :
    Meets (Builtin.«tuple.__mul__» ⟨[.ref l, .int 1 u], []⟩) (fun _ R s => s.heap.get? l = some { cls := .type "tuple", dict := dd, data := .seq items n, slots := sl } ∧ R (.ok (.ret (Value.ref l))) s) :=
  .of_wp fun prog w A R s h => by
    obtain ⟨hp, g, d, tk, os⟩ := s
    obtain ⟨hl, h⟩ := h
    have f1 := AutoSeq1.idx_int
    wp_walk using wpAny_loadPart' hl
    repeat (first
      | (refine wpAny_ite_true (decide_eq_true (by simp)) ?_; wp_walk using wpAny_loadPart' hl))
    exact ⟨_, rfl, h⟩
theorem tuple_mul0 (l : Addr) (items : Array Value) (n : Nat) (dd : Option Addr) (sl : Array (Option Value)) (u : Tok) (c1 : items.isEmpty = false) :
    Meets (Builtin.«tuple.__mul__» ⟨[.ref l, .int 0 u], []⟩) (fun _ R s => s.heap.get? l = some { cls := .type "tuple", dict := dd, data := .seq items n, slots := sl } ∧
      R (.ok (.ret (Value.ref s.heap.objs.size))) { s with heap := s.heap.push { cls := Value.type "tuple", data := Data.seq #[] }, toks := s.toks }) :=
  .of_wp fun prog w A R s h => by
    obtain ⟨hp, g, d, tk, os⟩ := s
    obtain ⟨hl, h⟩ := h
    have f1 := AutoSeq1.idx_int
    wp_walk using wpAny_loadPart' hl
    exact ⟨_, rfl, h⟩
/-- t * k, k from 0 -/
def rRepA (K : PySem.W.Frag) : R2 := fun x y H Q => ∃ l k xs, x = .ref l ∧ y = .int k ∧ SqT K H l xs ∧ xs ≠ [] ∧ 0 ≤ k ∧ k ≤ 1000 ∧ xs.length ≤ 1000 ∧ (k = 1 → Q (.ref l) H) ∧ (k ≠ 1 → ∀ p, H p = none → Q (.ref p) (upd H p (.tup (List.replicate k.toNat xs).flatten)))
theorem op_repA {X : Cx} : OpR X (binaryOp .Mult) (rRepA X.K) := by
  intro pins s σ H x y v u Q I rx ry h
  obtain ⟨l, k, xs, rfl, rfl, hT, hne, h0, h2, hz, q1, q⟩ := h
  rcases (show k = 0 ∨ k = 1 ∨ 2 ≤ k by omega) with rfl | rfl | h1
  · cases rx
    obtain ⟨t, rfl⟩ := ry
    obtain ⟨its, r, ⟨⟨cls, dd, data, sl⟩, ho, hc, n, hd⟩, hs⟩ := I.tuple hT
    simp only at hc hd
    subst hc hd
    have hi : its.toArray.isEmpty = false := by
      cases its with
      | nil => cases r; exact absurd rfl hne
      | cons a b => rfl
    refine wpAny_binaryOp_repeat_ref (T := "tuple") (U := "int") (by decide) ⟨_, ho, rfl⟩ (fun s' => typeIs_int s' 0 t) noFill_tuple_mul F.fills_int_mul F.slot_int_rmul repeat_tuple F.slot_int_index.lookup
      (call_meets F.slot_int_rmul (typeIs_int s 0 t) F.entry_int_rmul (F.args_int_rmul_2 _ _) (int_rmul_tuple 0 t l its.toArray n dd sl)
        ⟨ho, rfl, ⟨_, ho, rfl⟩, call_meets F.slot_tuple_mul ⟨_, ho, rfl⟩ F.entry_tuple_mul (F.args_tuple_mul_2 _ _) (tuple_mul0 l its.toArray n dd sl t hi) ⟨ho, ?_⟩⟩)
    exact ⟨.ref s.heap.objs.size, _, I.laid (t' := s.toks) (o := .tup []) (fun b ob q => Heap.get?_push_of_some _ q) (Nat.le_refl _) ⟨Nat.zero_le _, [], .nil, IsTup.new _ _⟩, rfl, q (by decide) _ (I.hok.fresh (Nat.le_refl _))⟩
  · cases rx
    obtain ⟨t, rfl⟩ := ry
    obtain ⟨its, r, ⟨⟨cls, dd, data, sl⟩, ho, hc, n, hd⟩, hs⟩ := I.tuple hT
    simp only at hc hd
    subst hc hd
    exact wpAny_binaryOp_repeat_ref (T := "tuple") (U := "int") (by decide) ⟨_, ho, rfl⟩ (fun s' => typeIs_int s' 1 t) noFill_tuple_mul F.fills_int_mul F.slot_int_rmul repeat_tuple F.slot_int_index.lookup
      (call_meets F.slot_int_rmul (typeIs_int s 1 t) F.entry_int_rmul (F.args_int_rmul_2 _ _) (int_rmul_tuple 1 t l its.toArray n dd sl)
        ⟨ho, rfl, ⟨_, ho, rfl⟩, call_meets F.slot_tuple_mul ⟨_, ho, rfl⟩ F.entry_tuple_mul (F.args_tuple_mul_2 _ _) (tuple_mul1 l its.toArray n dd sl t) ⟨ho, ⟨.ref l, H, I, rfl, q1 rfl⟩⟩⟩)
  · exact op_repT pins s σ H _ _ v u Q I rx ry ⟨l, k, xs, rfl, rfl, hT, hne, h1, h2, hz, q (by omega)⟩
theorem r_repA {K : PySem.W.Frag} {H : Hp} {l : Addr} {k v : Int} {Q : V → Hp → Prop} (h : SqT K H l [.int v]) (h0 : 0 ≤ k) (h1 : k ≤ 1000) (q : ∀ H' p, L2.Same H H' → SqT K H' p ((List.replicate k.toNat v).map V.int) → Q (.ref p) H') : rRepA K (.ref l) (.int k) H Q :=
  ⟨l, k, _, rfl, rfl, h, by simp, h0, h1, by simp, fun e => by
    subst e
    exact q _ _ (L2.Same.refl _) h, fun _ p np => q _ _ (Same.of_new rfl np) (.of (by
    rw [upd_same, List.map_replicate]
    have : ∀ n : Nat, (List.replicate n [V.int v]).flatten = List.replicate n (V.int v) := fun n => by
      induction n with
      | zero => rfl
      | succ n ih => rw [List.replicate_succ, List.flatten_cons, ih, List.replicate_succ]; rfl
    rw [this]))⟩
theorem r_catA {K : PySem.W.Frag} {H : Hp} {a b : Addr} {xs ys : List V} {Q : V → Hp → Prop} (h : SqT K H a xs) (h' : SqT K H b ys) (hz : xs.length + ys.length ≤ 1000000) (q : ∀ H' p, L2.Same H H' → SqT K H' p (xs ++ ys) → Q (.ref p) H') : rCatA K (.ref a) (.ref b) H Q :=
  ⟨a, b, xs, ys, rfl, rfl, h, h', by rw [Sg.sz]; omega, fun e => q _ _ (L2.Same.refl _) (by subst e; exact h'), fun _ e => q _ _ (L2.Same.refl _) (by subst e; rw [List.append_nil]; exact h), fun _ _ p np => q _ _ (Same.of_new rfl np) (.of upd_same)⟩

end
/-! ### what the law draws -/
local macro_rules | `(tactic| walk_at "ln") => `(tactic| first | omega | (simp only [List.length_append, List.length_map, List.length_cons, List.length_nil, List.length_drop, List.length_replicate]; omega))
local macro_rules | `(tactic| walk_at "ca1") => `(tactic| with_reducible (first | (refine' Sg.r_repA ?h ?h0 ?h1 ?_; (case h => (with_unfolding_all walk_at "hp")); (case h0 => omega); (case h1 => omega); intros) | (refine' Sg.r_catA ?h ?h' ?hz ?_; (case h => (with_unfolding_all walk_at "hp")); (case h' => (with_unfolding_all walk_at "hp")); (case hz => (with_unfolding_all walk_at "ln")); intros)))
def sp_law_payloads (K : PySem.W.Frag) (CL : Addr) : Sp := fun args_ H Q _ => ∃ (ly : Addr) (L : Lay) (row c : Int), args_ = [.ref ly, .int row, .int c] ∧ LayAt CL L H ly ∧ LayC L ∧ 0 ≤ row ∧ 0 ≤ c ∧ c ≤ 1000 ∧ ∀ H' l pvs pls, Same H H' → H l = none → H' l = some (.lst pvs) → Paired (PlAt K H') pvs (List.map some pls) → (pls.length : Int) = c → (∀ p ∈ pls, p.1 = 3 ∨ p.1 = 4) → Q (.ref l) H'
theorem i_law_payloads {K : PySem.W.Frag} {CL : Addr} {args_ : List V} {H : Hp} {Q : V → Hp → Prop} {E : XK} {ly : Addr} {L : Lay} {row c : Int} (ev : args_ = [.ref ly, .int row, .int c]) (hL : LayAt CL L H ly) (hC : LayC L) (w0 : 0 ≤ row) (c0 : 0 ≤ c) (c1 : c ≤ 1000) (q : ∀ H' l pvs pls, Same H H' → H l = none → H' l = some (.lst pvs) → Paired (PlAt K H') pvs (List.map some pls) → (pls.length : Int) = c → (∀ p ∈ pls, p.1 = 3 ∨ p.1 = 4) → Q (.ref l) H') : sp_law_payloads K CL args_ H Q E := ⟨ly, L, row, c, ev, hL, hC, w0, c0, c1, q⟩
local macro_rules | `(tactic| walk_at "ca1") => `(tactic| with_reducible (refine' Sg.i_law_payloads ?ev ?hL ?hC ?w0 ?c0 ?c1 ?_; (case ev => (with_unfolding_all rfl)); (case hL => (with_unfolding_all walk_at "pr")); (case hC => (with_unfolding_all walk_at "pr")); (case w0 => (with_unfolding_all walk_at "pr")); (case c0 => (with_unfolding_all walk_at "pr")); (case c1 => (with_unfolding_all walk_at "pr")); intros))

theorem ok_law_payloads (T : Txt K mg) : FnOk P w K mg base CX0 2 T.a_law_payloads T.fd_law_payloads ["layout", "row", "count"] (sp_law_payloads K T.A_Layout) := by
  refine T.F_law_payloads.ok sc_law_payloads (fun vs H Q E h => ?_) (fun cdv A outer s H vs Q E hr h => ?_)
  · obtain ⟨ly, L, row, c, rfl, _⟩ := h
    rfl
  · refine ⟨_, (pss_cons (ps_set (i := 3) sc_law_payloads.nd rfl (Or.inl rfl) (pe_lst pa_nil))
       (pss_cons (ps_for PassesOwn.never rfl (pi_range1 rfl T.n_range (pa_cons (pv 2) pa_nil)) (pg_name (i := 4) sc_law_payloads.nd rfl (Or.inl rfl))
       (pss_cons (ps_asg (pe_call (ok_law_digits T) (hr.mono (by decide)) rfl T.m_law_digits T.F_law_digits.kp T.b_law_digits .nil pass0 (pa_cons (pe_op op_fdiv (pv 1) (pe_op op_add (pv 4) pe_int)) (pa_cons (pe_lst (pa_cons pe_int (pa_cons pe_int (pa_cons (pe_fld (pv 0) rfl) pa_nil)))) pa_nil))) (pg_unl (by rfl) (pgs_cons (pg_name (i := 5) sc_law_payloads.nd rfl (Or.inl rfl)) (pgs_cons (pg_name (i := 6) sc_law_payloads.nd rfl (Or.inl rfl)) (pgs_cons (pg_name (i := 7) sc_law_payloads.nd rfl (Or.inl rfl)) pgs_nil)))))
       (pss_one (ps_if (pt_cmpR op_eq (pv 5) pe_int (nomark _))
       (pss_one (ps_expr (pe_bm PySem.F.plainAttrs_list PySem.F.slot_list_append PySem.F.type_list_append mt_append (pv 3) (pa_cons (pe_tup (pa_cons pe_int (pa_cons (pe_op op_catA (pe_tup (pa_cons (pe_op op_add pe_int (pe_op op_mod (pv 6) (pe_fld (pv 0) rfl))) pa_nil)) (pe_op op_repA (pe_tup (pa_cons pe_int pa_nil)) (pe_op op_sub (pe_fld (pv 0) rfl) pe_int))) pa_nil))) pa_nil))))
       (pss_one (ps_expr (pe_bm PySem.F.plainAttrs_list PySem.F.slot_list_append PySem.F.type_list_append mt_append (pv 3) (pa_cons (pe_tup (pa_cons pe_int (pa_cons (pe_op op_catA (pe_op op_repA (pe_tup (pa_cons (pv 6) pa_nil)) (pv 7)) (pe_op op_repA (pe_tup (pa_cons (pe_op op_mod (pe_op op_mul (pv 6) pe_int) pe_int) pa_nil)) (pe_op op_sub (pe_fld (pv 0) rfl) (pv 7)))) pa_nil))) pa_nil))))))))
       (pss_one (ps_ret (pv 3))))), ?_⟩
    try dsimp only [cxOf, Cx.nox, Cx.wish]
    obtain ⟨ly, L, row, c, rfl, hL, hC, w0, c0, c1, q⟩ := h
    have cl_Layout := T.cl_Layout
    have na_Layout_block_size := T.na_Layout_block_size
    have na_Layout_fan := T.na_Layout_fan
    have na_Layout_last_id := T.na_Layout_last_id
    obtain ⟨dxl, fsl, hl1, Fl⟩ := id hL
    have m1 := Fl.size
    have m2 := Fl.last
    have m3 := Fl.fan
    have z0 := hC.z0
    have z1 := hC.z1
    have l0 := hC.l0
    have l1 := hC.l1
    have f0 := hC.f0
    have f1 := hC.f1
    walk_at "go"
    rename_i p np H1 s1 g1
    refine r_forR (fun i σ' H' => ∃ (v4 v5 v6 v7 : Option V) (acc : List V) (pls : List (Int × Body)), σ' = [some (.ref ly), some (.int row), some (.int c), some (.ref p), v4, v5, v6, v7] ∧ Same H H' ∧ H' p = some (.lst acc) ∧ Paired (PlAt K H') acc (pls.map some) ∧ pls.length = i ∧ ∀ p ∈ pls, p.1 = 3 ∨ p.1 = 4) ⟨_, _, _, _, [], [], rfl, s1, g1, .nil, rfl, fun p hp => nomatch hp⟩ ?_ ?_
    · rintro i σ' H2 hi ⟨v4, v5, v6, v7, acc, pls, rfl, s2, g2, hp, lp, hk⟩
      rw [Int.zero_add]
      have hl2 := s2 _ _ hl1
      have al : acc.length = i := by rw [Paired.length hp, List.length_map, lp]
      walk_at "go"
      rename_i kd k0 k1 vl w0' w1 at' a0 a1 H3 dl s3 n3 g3
      refine r_ite (fun ck => ?_) (fun ck => ?_)
      · walk_at "go"
        rename_i z _ _ _ _ _ _ _ _ _ _ _ _ _ _ _ _ _ Ha pa sa ta t2 n2 H4 s4 g4 H5 e5 g5
        have sa' : Same H2 Ha := by walk_at "sm"
        have sx : Same H2 H4 := sa'.trans s4
        have kb : Keeps Ha H5 := (Keeps.of s4).trans (Keeps.upd (sx _ _ g2) (fun z => nomatch z) e5)
        have k5 : Keeps H2 H5 := (Keeps.of sa').trans kb
        have tp : t2 ≠ p := fun z => by rw [z, sa' _ _ g2] at n2; cases n2
        refine ⟨_, _, _, _, acc ++ [.ref t2], pls ++ [(4, .ints ((1 + z) :: List.replicate (L.fan - 1).toNat 0))], rfl, Sg.Same.old (s2.trans sx) np e5, g5, ?_, by rw [List.length_append, lp]; rfl, fun p hp => ?_⟩
        · rw [List.map_append]
          exact paired_snoc (pls_keeps k5 hp) ⟨t2, pa, rfl, .of (by rw [← e5, upd_ne tp]; exact g4), kb.tup ta⟩
        · rcases List.mem_append.mp hp with hp | hp
          · exact hk p hp
          · rw [List.mem_singleton.mp hp]; exact .inr rfl
      · walk_at "go"
        rename_i z _ _ _ _ _ _ _ _ _ _ _ _ Ha pa sa ta t2 n2 H4 s4 g4 H5 e5 g5
        have sa' : Same H2 Ha := by walk_at "sm"
        have sx : Same H2 H4 := sa'.trans s4
        have kb : Keeps Ha H5 := (Keeps.of s4).trans (Keeps.upd (sx _ _ g2) (fun z => nomatch z) e5)
        have k5 : Keeps H2 H5 := (Keeps.of sa').trans kb
        have tp : t2 ≠ p := fun z => by rw [z, sa' _ _ g2] at n2; cases n2
        refine ⟨_, _, _, _, acc ++ [.ref t2], pls ++ [(3, .ints (List.replicate at'.toNat vl ++ List.replicate (L.size - at').toNat z))], rfl, Sg.Same.old (s2.trans sx) np e5, g5, ?_, by rw [List.length_append, lp]; rfl, fun p hp => ?_⟩
        · rw [List.map_append]
          exact paired_snoc (pls_keeps k5 hp) ⟨t2, pa, rfl, .of (by rw [← e5, upd_ne tp]; exact g4), show SqT K H5 pa _ from by rw [List.map_append]; exact kb.tup ta⟩
        · rcases List.mem_append.mp hp with hp | hp
          · exact hk p hp
          · rw [List.mem_singleton.mp hp]; exact .inl rfl
    rintro σ' H2 ⟨v4, v5, v6, v7, acc, pls, rfl, s2, g2, hp, lp, hk⟩
    walk_at "go"
    exact q _ _ acc pls s2 np g2 hp (by omega) hk
def sp_law_ids (K : PySem.W.Frag) (CL : Addr) : Sp := fun args_ H Q _ => ∃ (ly : Addr) (L : Lay) (row : Int), args_ = [.ref ly, .int row] ∧ LayAt CL L H ly ∧ LayC L ∧ 0 ≤ row ∧ ∀ H' l ids, Same H H' → H l = none → H' l = some (.lst (List.map V.int ids)) → (ids.length : Int) ≤ L.pay → (∀ z ∈ ids, 1 ≤ z ∧ z ≤ L.last) → ids.Nodup → Q (.ref l) H'
theorem i_law_ids {K : PySem.W.Frag} {CL : Addr} {args_ : List V} {H : Hp} {Q : V → Hp → Prop} {E : XK} {ly : Addr} {L : Lay} {row : Int} (ev : args_ = [.ref ly, .int row]) (hL : LayAt CL L H ly) (hC : LayC L) (w0 : 0 ≤ row) (q : ∀ H' l ids, Same H H' → H l = none → H' l = some (.lst (List.map V.int ids)) → (ids.length : Int) ≤ L.pay → (∀ z ∈ ids, 1 ≤ z ∧ z ≤ L.last) → ids.Nodup → Q (.ref l) H') : sp_law_ids K CL args_ H Q E := ⟨ly, L, row, ev, hL, hC, w0, q⟩
local macro_rules | `(tactic| walk_at "ca1") => `(tactic| with_reducible (refine' Sg.i_law_ids ?ev ?hL ?hC ?w0 ?_; (case ev => (with_unfolding_all rfl)); (case hL => (with_unfolding_all walk_at "pr")); (case hC => (with_unfolding_all walk_at "pr")); (case w0 => (with_unfolding_all walk_at "pr")); intros))

theorem ok_law_ids (T : Txt K mg) : FnOk P w K mg base CX0 2 T.a_law_ids T.fd_law_ids ["layout", "row"] (sp_law_ids K T.A_Layout) := by
  refine T.F_law_ids.ok sc_law_ids (fun vs H Q E h => ?_) (fun cdv A outer s H vs Q E hr h => ?_)
  · obtain ⟨ly, L, row, rfl, _⟩ := h
    rfl
  · refine ⟨_, (pss_cons (ps_set (i := 2) sc_law_ids.nd rfl (Or.inl rfl) (pe_fld (pv 0) rfl))
       (pss_cons (ps_asg (pe_call (ok_law_digits T) (hr.mono (by decide)) rfl T.m_law_digits T.F_law_digits.kp T.b_law_digits .nil pass0 (pa_cons (pv 1) (pa_cons (pe_lst (pa_cons pe_int (pa_cons pe_int (pa_cons (pe_op op_add (pe_fld (pv 0) rfl) pe_int) (pa_cons pe_int (pa_cons (pv 2) (pa_cons (pv 2) pa_nil))))))) pa_nil))) (pg_unl (by rfl) (pgs_cons (pg_name (i := 3) sc_law_ids.nd rfl (Or.inl rfl)) (pgs_cons (pg_name (i := 4) sc_law_ids.nd rfl (Or.inl rfl)) (pgs_cons (pg_name (i := 5) sc_law_ids.nd rfl (Or.inl rfl)) (pgs_cons (pg_name (i := 6) sc_law_ids.nd rfl (Or.inl rfl)) (pgs_cons (pg_name (i := 7) sc_law_ids.nd rfl (Or.inl rfl)) (pgs_cons (pg_name (i := 8) sc_law_ids.nd rfl (Or.inl rfl)) pgs_nil))))))))
       (C8.pss_cut (ps_if (pt_cmpR op_eq (pv 4) pe_int (nomark _))
       (pss_one (ps_set (i := 3) sc_law_ids.nd rfl (Or.inl rfl) (pv 5)))
       pss_nil)
       (pss_cons (ps_set (i := 9) sc_law_ids.nd rfl (Or.inl rfl) (pv 2))
       (C8.pss_cut (ps_if (pt_cmpR op_gt (pv 6) pe_int (nomark _))
       (pss_one (ps_set (i := 9) sc_law_ids.nd rfl (Or.inl rfl) pe_int))
       pss_nil)
       (pss_cons (ps_set (i := 10) sc_law_ids.nd rfl (Or.inl rfl) (pe_lst pa_nil))
       (pss_cons (ps_for PassesOwn.never rfl (pi_range1 rfl T.n_range (pa_cons (pv 3) pa_nil)) (pg_name (i := 11) sc_law_ids.nd rfl (Or.inl rfl))
       (pss_cons (ps_set (i := 12) sc_law_ids.nd rfl (Or.inl rfl) (pe_op op_add pe_int (pe_op op_mod (pe_callTy c_int (by rfl) T.n_int (by decide +kernel) (pa_cons (pe_op op_add (pv 7) (pe_op op_mul (pv 11) (pe_op op_add (pv 8) pe_int))) pa_nil)) (pv 9))))
       (pss_one (ps_if (pt_cmpR op_notIn_seq (pv 12) (pv 10) (by with_unfolding_all rfl))
       (pss_one (ps_expr (pe_bm PySem.F.plainAttrs_list PySem.F.slot_list_append PySem.F.type_list_append mt_append (pv 10) (pa_cons (pv 12) pa_nil))))
       pss_nil))))
       (pss_one (ps_ret (pv 10)))))))))), ?_⟩
    try dsimp only [cxOf, Cx.nox, Cx.wish]
    obtain ⟨ly, L, row, rfl, hL, hC, w0, q⟩ := h
    have cl_Layout := T.cl_Layout
    have na_Layout_last_id := T.na_Layout_last_id
    have na_Layout_payload := T.na_Layout_payload
    obtain ⟨dxl, fsl, hl1, Fl⟩ := id hL
    have m1 := Fl.last
    have m2 := Fl.pay
    have l0 := hC.l0
    have l1 := hC.l1
    have b0 := hC.b0
    have b1 := hC.b1
    have pay := hC.pay
    walk_at "go"
    rename_i sz a1 a2 mny b1' b2' mor c1' c2' ner d1' d2' fst e1' e2' stp f1' f2' H2 dl s2 n2 g2
    refine r_cut (fun σ' H' => ∃ sz', 0 ≤ sz' ∧ sz' ≤ L.pay ∧ Same H H' ∧ σ' = [some (.ref ly), some (.int row), some (.int L.last), some (.int sz'), some (.int mny), some (.int mor), some (.int ner), some (.int fst), some (.int stp), none, none, none, none]) ?_ ?_
    · walk_at "go"
      refine r_ite (fun c => ?_) (fun c => ?_)
      · walk_at "go"
        exact ⟨mor, by omega, by omega, (by walk_at "sm"), rfl⟩
      · walk_at "go"
        exact ⟨sz, by omega, by omega, (by walk_at "sm"), rfl⟩
    rintro σ' H3 ⟨sz', z0, z1, s3, rfl⟩
    walk_at "go"
    refine r_cut (fun σ' H' => ∃ sp, 12 ≤ sp ∧ sp ≤ L.last ∧ H3 = H' ∧ σ' = [some (.ref ly), some (.int row), some (.int L.last), some (.int sz'), some (.int mny), some (.int mor), some (.int ner), some (.int fst), some (.int stp), some (.int sp), none, none, none]) ?_ ?_
    · walk_at "go"
      refine r_ite (fun c => ?_) (fun c => ?_)
      · walk_at "go"
        exact ⟨12, by omega, by omega, rfl, rfl⟩
      · walk_at "go"
        exact ⟨L.last, by omega, by omega, rfl, rfl⟩
    rintro σ' _ ⟨sp, p0, p1, rfl, rfl⟩
    walk_at "go"
    rename_i il nil' H4 s4 g4
    refine r_forR (fun i σ' H' => ∃ (v11 v12 : Option V) (ids : List Int), σ' = [some (.ref ly), some (.int row), some (.int L.last), some (.int sz'), some (.int mny), some (.int mor), some (.int ner), some (.int fst), some (.int stp), some (.int sp), some (.ref il), v11, v12] ∧ Same H H' ∧ H' il = some (.lst (ids.map V.int)) ∧ ids.length ≤ i ∧ (∀ z ∈ ids, 1 ≤ z ∧ z ≤ L.last) ∧ ids.Nodup) ⟨_, _, [], rfl, s3.trans s4, g4, Nat.le_refl _, (fun z hz => nomatch hz), List.nodup_nil⟩ ?_ ?_
    · rintro i σ' H5 hi ⟨v11, v12, ids, rfl, s5, g5, li, hb, nd⟩
      rw [Int.zero_add]
      walk_at "go"
      rename_i z hz z0' z1'
      refine r_in (.inl (.of g5)) rfl (flat_ints _) ?_
      rw [if_pos rfl, inV_ints]
      walk_at "go"
      refine r_iteN (fun c => ?_) (fun c => ?_)
      · walk_at "go"
        rename_i H6 e6 g6
        refine ⟨_, _, ids ++ [1 + z], rfl, Sg.Same.old s5 (s3.free nil') e6, by rw [g6, List.map_append]; rfl, by rw [List.length_append]; simp; omega, fun y hy => ?_, ?_⟩
        · rcases List.mem_append.mp hy with hy | hy
          · exact hb y hy
          · have := List.mem_singleton.mp hy
            omega
        · have := insK_nd (z := 1 + z) nd
          rw [insK, if_neg c] at this
          exact this
      · walk_at "go"
        exact ⟨_, _, ids, rfl, s5, g5, by omega, hb, nd⟩
    rintro σ' H5 ⟨v11, v12, ids, rfl, s5, g5, li, hb, nd⟩
    walk_at "go"
    exact q _ _ ids s5 (s3.free nil') g5 (by omega) hb nd
/-- a dict of payloads by ids -/
structure Kno (K : PySem.W.Frag) (L : Lay) (H : Hp) (kvs : List (Key × V)) : Prop where
  nd : (kvs.map (·.1)).Nodup
  ks : ∀ kv ∈ kvs, ∃ k : Int, kv.1 = Sum.inl k ∧ 1 ≤ k ∧ k ≤ L.last ∧ ∃ p, PlAt K H kv.2 (some p)
theorem Kno.keeps {K : PySem.W.Frag} {L : Lay} {H H' : Hp} {kvs : List (Key × V)} (s : Keeps H H') (h : Kno K L H kvs) : Kno K L H' kvs := ⟨h.nd, fun kv hm => by
  obtain ⟨k, h1, h2, h3, p, h4⟩ := h.ks kv hm
  exact ⟨k, h1, h2, h3, p, h4.keeps s⟩⟩
theorem Kno.nil {K : PySem.W.Frag} {L : Lay} {H : Hp} : Kno K L H [] := ⟨List.nodup_nil, fun _ h => nomatch h⟩
theorem Kno.keys {K : PySem.W.Frag} {L : Lay} {H : Hp} : ∀ {kvs : List (Key × V)}, Kno K L H kvs → ∃ ks : List Int, kvs.map (·.1) = ks.map Sum.inl ∧ ks.Nodup ∧ ∀ k ∈ ks, 1 ≤ k ∧ k ≤ L.last
  | [], _ => ⟨[], rfl, List.nodup_nil, fun _ h => nomatch h⟩
  | kv :: kvs, h => by
    have nd := h.nd
    rw [List.map_cons] at nd
    obtain ⟨ks, e, n, b⟩ := Kno.keys (kvs := kvs) ⟨(List.nodup_cons.mp nd).2, fun x hx => h.ks x (List.mem_cons_of_mem _ hx)⟩
    obtain ⟨k, h1, h2, h3, _⟩ := h.ks kv (List.mem_cons_self ..)
    refine ⟨k :: ks, by rw [List.map_cons, List.map_cons, e, h1], List.nodup_cons.mpr ⟨fun hk => ?_, n⟩, fun z hz => ?_⟩
    · refine (List.nodup_cons.mp nd).1 ?_
      rw [e, h1]
      exact List.mem_map.mpr ⟨k, hk, rfl⟩
    · rcases List.mem_cons.mp hz with hz | hz
      · rw [hz]; exact ⟨h2, h3⟩
      · exact b z hz
theorem Kno.len {K : PySem.W.Frag} {L : Lay} {H : Hp} {kvs : List (Key × V)} (hC : LayC L) (h : Kno K L H kvs) : kvs.length ≤ 466 := by
  obtain ⟨ks, e, n, b⟩ := h.keys
  have := nd_len 466 ks n fun z hz => by
    have := b z hz
    have := hC.l1
    omega
  have e := congrArg List.length e
  rw [List.length_map, List.length_map] at e
  omega
theorem val_mem {kvs : List (Key × V)} {k : Key} {v : V} (h : valV kvs k = some v) : (k, v) ∈ kvs := by
  unfold valV at h
  obtain ⟨kv, h1, h2⟩ := Option.map_eq_some_iff.mp h
  have h3 := List.find?_some h1
  have h4 := List.mem_of_find?_eq_some h1
  have h3 := of_decide_eq_true h3
  rw [← h3, ← h2]
  exact h4
theorem Kno.at_ {K : PySem.W.Frag} {L : Lay} {H : Hp} {kvs : List (Key × V)} {k : Key} {v : V} (h : Kno K L H kvs) (e : valV kvs k = some v) : ∃ p, PlAt K H v (some p) := by
  obtain ⟨_, _, _, _, p, hp⟩ := h.ks _ (val_mem e)
  exact ⟨p, hp⟩
theorem Kno.put {K : PySem.W.Frag} {L : Lay} {H : Hp} {kvs : List (Key × V)} {k : Int} {v : V} {p : Int × Body} (h : Kno K L H kvs) (k1 : 1 ≤ k) (k2 : k ≤ L.last) (hv : PlAt K H v (some p)) : Kno K L H (putK kvs (.inl k) v) := by
  obtain ⟨ks, e, n, b⟩ := h.keys
  refine ⟨?_, fun kv hm => ?_⟩
  · rw [keys_put e]
    have := insK_nd (z := k) n
    unfold insK at this
    exact List.Pairwise.map _ (fun a b h e => h (Sum.inl.inj e)) this
  · unfold putK at hm
    split at hm
    · obtain ⟨kv', h1, rfl⟩ := List.mem_map.mp hm
      split
      · rename_i c
        exact ⟨k, c, k1, k2, p, hv⟩
      · exact h.ks _ h1
    · rcases List.mem_append.mp hm with hm | hm
      · exact h.ks _ hm
      · rw [List.mem_singleton.mp hm]
        exact ⟨k, rfl, k1, k2, p, hv⟩
def sp_law_used (K : PySem.W.Frag) (CL : Addr) : Sp := fun args_ H Q _ => ∃ (L : Lay) (ly ka ia : Addr) (kvs : List (Key × V)) (ids : List Int) (dr : Int), args_ = [.ref ly, .ref ka, .ref ia, .int dr] ∧ LayAt CL L H ly ∧ LayC L ∧ H ka = some (.dK kvs) ∧ SqL K H ia (ids.map V.int) ∧ 0 ≤ dr ∧ dr ≤ 1000 ∧ ∀ H' l used, Same H H' → H l = none → H' l = some (.lst (List.map V.int used)) → used.length ≤ 466 → (∀ z ∈ used, 1 ≤ z ∧ z ≤ L.last) → Q (.ref l) H'
theorem i_law_used {K : PySem.W.Frag} {CL : Addr} {args_ : List V} {H : Hp} {Q : V → Hp → Prop} {E : XK} {L : Lay} {ly ka ia : Addr} {kvs : List (Key × V)} {ids : List Int} {dr : Int} (ev : args_ = [.ref ly, .ref ka, .ref ia, .int dr]) (hL : LayAt CL L H ly) (hC : LayC L) (hk : H ka = some (.dK kvs)) (hia : SqL K H ia (ids.map V.int)) (d0 : 0 ≤ dr) (d1 : dr ≤ 1000) (q : ∀ H' l used, Same H H' → H l = none → H' l = some (.lst (List.map V.int used)) → used.length ≤ 466 → (∀ z ∈ used, 1 ≤ z ∧ z ≤ L.last) → Q (.ref l) H') : sp_law_used K CL args_ H Q E := ⟨L, ly, ka, ia, kvs, ids, dr, ev, hL, hC, hk, hia, d0, d1, q⟩
local macro_rules | `(tactic| walk_at "ca1") => `(tactic| with_reducible (refine' Sg.i_law_used ?ev ?hL ?hC ?hk ?hia ?d0 ?d1 ?_; (case ev => (with_unfolding_all rfl)); (case hL => (with_unfolding_all walk_at "pr")); (case hC => (with_unfolding_all walk_at "pr")); (case hk => (with_unfolding_all walk_at "pr")); (case hia => (with_unfolding_all walk_at "pr")); (case d0 => (with_unfolding_all walk_at "pr")); (case d1 => (with_unfolding_all walk_at "pr")); intros))

theorem ok_law_used (T : Txt K mg) : FnOk P w K mg base CX0 1 T.a_law_used T.fd_law_used ["layout", "known", "ids", "drop"] (sp_law_used K T.A_Layout) := by
  refine T.F_law_used.ok sc_law_used (fun vs H Q E h => ?_) (fun cdv A outer s H vs Q E hr h => ?_)
  · obtain ⟨L, ly, ka, ia, kvs, ids, dr, rfl, _⟩ := h
    rfl
  · refine ⟨_, (pss_cons (ps_set (i := 4) sc_law_used.nd rfl (Or.inl rfl) (pe_lst pa_nil))
       (pss_cons (ps_for PassesOwn.never rfl (pi_range2 rfl T.n_range (pa_cons pe_int (pa_cons (pe_op op_add (pe_fld (pv 0) rfl) pe_int) pa_nil))) (pg_name (i := 5) sc_law_used.nd rfl (Or.inl rfl))
       (pss_one (ps_if (PW.pt (pw_or (pt_cmp (pc_din (hu_of hr) (pv 5) (pv 1)) rfl) (pw_or1 (pt_cmpR op_in_seq (pv 5) (pv 2) (by with_unfolding_all rfl)))))
       (pss_one (ps_if (pt_cmpR op_gt (pe_op op_mod (pe_callTy c_int (by rfl) T.n_int (by decide +kernel) (pa_cons (pe_op op_add (pe_op op_mul (pv 5) pe_int) (pv 3)) pa_nil)) pe_int) pe_int (nomark _))
       (pss_one (ps_expr (pe_bm PySem.F.plainAttrs_list PySem.F.slot_list_append PySem.F.type_list_append mt_append (pv 4) (pa_cons (pv 5) pa_nil))))
       pss_nil))
       pss_nil)))
       (pss_one (ps_ret (pv 4))))), ?_⟩
    try dsimp only [cxOf, Cx.nox, Cx.wish]
    obtain ⟨L, ly, ka, ia, kvs, ids, dr, rfl, hL, hC, hk, hia, d0, d1, q⟩ := h
    have cl_Layout := T.cl_Layout
    have na_Layout_last_id := T.na_Layout_last_id
    obtain ⟨dxl, fsl, hl1, Fl⟩ := id hL
    have m1 := Fl.last
    have l0 := hC.l0
    have l1 := hC.l1
    walk_at "go"
    rename_i p np H1 s1 g1
    refine r_forR (fun i σ' H' => ∃ (v5 : Option V) (used : List Int), σ' = [some (.ref ly), some (.ref ka), some (.ref ia), some (.int dr), some (.ref p), v5] ∧ Same H H' ∧ H' p = some (.lst (used.map V.int)) ∧ used.length ≤ i ∧ ∀ z ∈ used, 1 ≤ z ∧ z ≤ L.last) ⟨_, [], rfl, s1, g1, Nat.le_refl _, fun z hz => nomatch hz⟩ ?_ ?_
    · rintro i σ' H2 hi ⟨v5, used, rfl, s2, g2, lu, hu⟩
      have hk2 := s2 _ _ hk
      have hia2 := s2.seq hia
      have fin : ∀ v5', ∃ (v5 : Option V) (used : List Int), [some (.ref ly), some (.ref ka), some (.ref ia), some (.int dr), some (.ref p), v5'] = [some (.ref ly), some (.ref ka), some (.ref ia), some (.int dr), some (.ref p), v5] ∧ Same H H2 ∧ H2 p = some (.lst (used.map V.int)) ∧ used.length ≤ i + 1 ∧ ∀ z ∈ used, 1 ≤ z ∧ z ≤ L.last := fun v5' => ⟨v5', used, rfl, s2, g2, by omega, hu⟩
      have fin2 : ∀ v5' H3, upd H2 p (.lst (used.map V.int ++ [.int (1 + (i : Int))])) = H3 → ∃ (v5 : Option V) (used : List Int), [some (.ref ly), some (.ref ka), some (.ref ia), some (.int dr), some (.ref p), v5'] = [some (.ref ly), some (.ref ka), some (.ref ia), some (.int dr), some (.ref p), v5] ∧ Same H H3 ∧ H3 p = some (.lst (used.map V.int)) ∧ used.length ≤ i + 1 ∧ ∀ z ∈ used, 1 ≤ z ∧ z ≤ L.last := fun v5' H3 e3 => by
        refine ⟨v5', used ++ [1 + (i : Int)], rfl, Sg.Same.old s2 np e3, by rw [← e3, upd_same, List.map_append]; rfl, by rw [List.length_append]; simp; omega, fun z hz => ?_⟩
        rcases List.mem_append.mp hz with hz | hz
        · exact hu z hz
        · have := List.mem_singleton.mp hz
          omega
      walk_at "go"
      refine to_ite (fun c => ?_) (fun c => ?_)
      · walk_at "go"
        refine r_ite (fun c3 => ?_) (fun c3 => ?_)
        · walk_at "go"
          rename_i H3 e3 g3
          exact fin2 _ _ e3
        · walk_at "go"
          exact fin _
      · walk_at "go"
        refine r_in (.inl hia2) rfl (flat_ints _) ?_
        rw [if_neg (by decide), inV_ints]
        walk_at "go"
        refine r_ite (fun c2 => ?_) (fun c2 => ?_)
        · walk_at "go"
          refine r_ite (fun c3 => ?_) (fun c3 => ?_)
          · walk_at "go"
            rename_i H3 e3 g3
            exact fin2 _ _ e3
          · walk_at "go"
            exact fin _
        · walk_at "go"
          exact fin _
    rintro σ' H2 ⟨v5, used, rfl, s2, g2, lu, hu⟩
    walk_at "go"
    exact q _ _ used s2 np g2 (by omega) hu

/-! ### the state that a law keeps, and its deeds -/
theorem first_of {k : Int} : ∀ ns : List Int, k ∈ ns → ∃ j : Nat, ns[j]? = some k ∧ ∀ m, m < j → ns[m]? ≠ some k
  | [], h => nomatch h
  | x :: ns, h => by
    by_cases e : x = k
    · exact ⟨0, by rw [e]; rfl, fun m hm => absurd hm (Nat.not_lt_zero _)⟩
    · obtain ⟨j, h1, h2⟩ := first_of ns ((List.mem_cons.mp h).resolve_left (Ne.symm e))
      refine ⟨j + 1, h1, fun m hm => ?_⟩
      cases m with
      | zero => exact fun z => e (Option.some.inj z)
      | succ m => exact h2 m (by omega)
theorem r_index {K : PySem.W.Frag} {H : Hp} {a : Addr} {ns : List Int} {k : Int} {Q : V → Hp → Prop} (h : SqL K H a (ns.map V.int)) (hk : k ∈ ns) (q : ∀ j : Nat, ns[j]? = some k → Q (.int (j : Nat)) H) : rIndex K (.ref a) [.int k] H Q := by
  obtain ⟨j, h1, h2⟩ := first_of ns hk
  refine ⟨a, _, .int k, j, .int k, rfl, rfl, h, rfl, flat_ints _, by rw [List.getElem?_map, h1]; rfl, ?_, fun m z' hm hz => ?_, q j h1⟩
  · show (k == k) = true
    exact beq_self_eq_true k
  · rw [List.getElem?_map] at hz
    obtain ⟨x, hx, rfl⟩ := Option.map_eq_some_iff.mp hz
    show (x == k) = false
    exact beq_false_of_ne fun e => h2 m hm (by rw [hx, e])
def sp_law_after (K : PySem.W.Frag) : Sp := fun args_ H Q _ => ∃ (L : Lay) (sa ia pa ua d : Addr) (v1 v2 v3 : V) (kvs : List (Key × V)) (ids used : List Int) (pvs : List V) (pls : List (Int × Body)) (a : Int), args_ = [.ref sa, .ref ia, .ref pa, .ref ua, .int a] ∧ H sa = some (.lst [.ref d, v1, v2, v3]) ∧ H d = some (.dK kvs) ∧ Kno K L H kvs ∧ LayC L ∧ SqL K H ia (ids.map V.int) ∧ SqL K H ua (used.map V.int) ∧ SqL K H pa pvs ∧ Paired (PlAt K H) pvs (pls.map some) ∧ pls.length = ids.length ∧ (∀ z ∈ used, 1 ≤ z ∧ z ≤ L.last) ∧ used.length ≤ 466 ∧ ids.length ≤ 4000 ∧ 0 ≤ a ∧ a ≤ 6 ∧ ∀ (H' : Hp) (sa' d' : Addr) (w1 w2 w3 : V) (kvs' : List (Key × V)), Same H H' → H sa' = none → H d' = none → H' sa' = some (.lst [.ref d', w1, w2, w3]) → H' d' = some (.dK kvs') → Kno K L H' kvs' → Q (.ref sa') H'
theorem i_law_after {K : PySem.W.Frag} {args_ : List V} {H : Hp} {Q : V → Hp → Prop} {E : XK} {L : Lay} {sa ia pa ua d : Addr} {v1 v2 v3 : V} {kvs : List (Key × V)} {ids used : List Int} {pvs : List V} {pls : List (Int × Body)} {a : Int} (ev : args_ = [.ref sa, .ref ia, .ref pa, .ref ua, .int a]) (hs : H sa = some (.lst [.ref d, v1, v2, v3])) (hd : H d = some (.dK kvs)) (hk : Kno K L H kvs) (hC : LayC L) (hia : SqL K H ia (ids.map V.int)) (hua : SqL K H ua (used.map V.int)) (hpa : SqL K H pa pvs) (hpl : Paired (PlAt K H) pvs (pls.map some)) (lp : pls.length = ids.length) (hus : (∀ z ∈ used, 1 ≤ z ∧ z ≤ L.last)) (lu : used.length ≤ 466) (li : ids.length ≤ 4000) (a0 : 0 ≤ a) (a6 : a ≤ 6) (q : ∀ (H' : Hp) (sa' d' : Addr) (w1 w2 w3 : V) (kvs' : List (Key × V)), Same H H' → H sa' = none → H d' = none → H' sa' = some (.lst [.ref d', w1, w2, w3]) → H' d' = some (.dK kvs') → Kno K L H' kvs' → Q (.ref sa') H') : sp_law_after K args_ H Q E := ⟨L, sa, ia, pa, ua, d, v1, v2, v3, kvs, ids, used, pvs, pls, a, ev, hs, hd, hk, hC, hia, hua, hpa, hpl, lp, hus, lu, li, a0, a6, q⟩
local macro_rules | `(tactic| walk_at "ca1") => `(tactic| with_reducible (refine' Sg.i_law_after ?ev ?hs ?hd ?hk ?hC ?hia ?hua ?hpa ?hpl ?lp ?hus ?lu ?li ?a0 ?a6 ?_; (case ev => (with_unfolding_all rfl)); (case hs => (with_unfolding_all walk_at "pr")); (case hd => (with_unfolding_all walk_at "pr")); (case hk => (with_unfolding_all walk_at "pr")); (case hC => (with_unfolding_all walk_at "pr")); (case hia => (with_unfolding_all walk_at "pr")); (case hua => (with_unfolding_all walk_at "pr")); (case hpa => (with_unfolding_all walk_at "pr")); (case hpl => (with_unfolding_all walk_at "pr")); (case lp => (with_unfolding_all walk_at "pr")); (case hus => (with_unfolding_all walk_at "pr")); (case lu => (with_unfolding_all walk_at "pr")); (case li => (with_unfolding_all walk_at "pr")); (case a0 => (with_unfolding_all walk_at "pr")); (case a6 => (with_unfolding_all walk_at "pr")); intros))

theorem ok_law_after (T : Txt K mg) : FnOk P w K mg base CX0 1 T.a_law_after T.fd_law_after ["state", "ids", "payloads", "used", "action"] (sp_law_after K) := by
  refine T.F_law_after.ok sc_law_after (fun vs H Q E h => ?_) (fun cdv A outer s H vs Q E hr h => ?_)
  · obtain ⟨L, sa, ia, pa, ua, d, v1, v2, v3, kvs, ids, used, pvs, pls, a, rfl, _⟩ := h
    rfl
  · refine ⟨_, (pss_cons (ps_set (i := 5) sc_law_after.nd rfl (Or.inl rfl) pe_dnewK)
       (pss_cons (ps_for PassesOwn.never rfl (pi_list (pv 3)) (pg_name (i := 6) sc_law_after.nd rfl (Or.inl rfl))
       (pss_one (ps_if (pt_cmpR op_in_seq (pv 6) (pv 1) (by with_unfolding_all rfl))
       (pss_one (ps_dput (hu_of hr) (pv 5) (pv 6) (pe_ix ix_list (pv 2) (pe_bm PySem.F.plainAttrs_list PySem.F.slot_list_index PySem.F.type_list_index mt_index (pv 1) (pa_cons (pv 6) pa_nil)) (fun _ _ => rfl)) rfl))
       (pss_one (ps_if (pt_cmp (pc_din (hu_of hr) (pv 6) (pe_ix ix_list (pv 0) pe_int (fun _ _ => rfl))) rfl)
       (pss_one (ps_dput (hu_of hr) (pv 5) (pv 6) (pe_dget (hu_of hr) (pe_ix ix_list (pv 0) pe_int (fun _ _ => rfl)) (pv 6) (fun _ _ => rfl)) rfl))
       pss_nil)))))
       (pss_cons (ps_set (i := 7) sc_law_after.nd rfl (Or.inl rfl) (pe_op op_cat (pe_lst (pa_cons (pv 5) pa_nil)) (pe_slice sl_list (pv 0) (po_some pe_int) po_none)))
       (C8.pss_cut (ps_if (pt_chain op_le op_le pe_int (pv 4) pe_int)
       (pss_one (ps_asg (pv 5) (pg_sub (pv 7) (pv 4) set_list)))
       pss_nil)
       (C8.pss_cut (ps_if (pt_cmpR op_ge (pv 4) pe_int (nomark _))
       (pss_one (ps_asg pe_non (pg_sub (pv 7) (pe_op op_sub (pv 4) pe_int) set_list)))
       pss_nil)
       (pss_one (ps_ret (pv 7)))))))), ?_⟩
    try dsimp only [cxOf, Cx.nox, Cx.wish]
    obtain ⟨L, sa, ia, pa, ua, d, v1, v2, v3, kvs, ids, used, pvs, pls, a, rfl, hs, hd, hk, hC, hia, hua, hpa, hpl, lp, hus, lu, li, a0, a6, q⟩ := h
    walk_at "go"
    rename_i p np H1 s1 gp
    have npv : pvs.length = ids.length := by have := Paired.length hpl; rw [List.length_map] at this; omega
    refine r_forL (xs := used.map V.int) (fun i σ' H' => ∃ (v6 : Option V) (kp : List (Key × V)), σ' = [some (.ref sa), some (.ref ia), some (.ref pa), some (.ref ua), some (.int a), some (.ref p), v6, none] ∧ Same H H' ∧ H' p = some (.dK kp) ∧ Kno K L H' kp) ⟨_, [], rfl, s1, gp, .nil⟩ (fun i σ' H' _ ⟨_, _, _, s, _⟩ => s.seq hua) ?_ ?_
    · rintro i x σ' H2 hx ⟨v6, kp, rfl, s2, g2, k2⟩
      rw [List.getElem?_map] at hx
      obtain ⟨z, hz, ex⟩ := Option.map_eq_some_iff.mp hx
      subst ex
      obtain ⟨z1, z2⟩ := hus z (List.mem_of_getElem? hz)
      have kl := k2.len hC
      have hia2 := s2.seq hia
      have hpa2 := s2.seq hpa
      have hs2 := s2 _ _ hs
      have hd2 := s2 _ _ hd
      have put : ∀ {v : V} {H3 : Hp}, (∃ pp, PlAt K H2 v (some pp)) → upd H2 p (.dK (putK kp (.inl z) v)) = H3 → ∃ (v6 : Option V) (kp : List (Key × V)), [some (.ref sa), some (.ref ia), some (.ref pa), some (.ref ua), some (.int a), some (.ref p), some (.int z), none] = [some (.ref sa), some (.ref ia), some (.ref pa), some (.ref ua), some (.int a), some (.ref p), v6, none] ∧ Same H H3 ∧ H3 p = some (.dK kp) ∧ Kno K L H3 kp := fun {v H3} hv e3 => by
        obtain ⟨pp, hv⟩ := hv
        have k3 : Keeps H2 H3 := Keeps.upd g2 (fun z => nomatch z) e3
        exact ⟨_, _, rfl, Sg.Same.old s2 np e3, by rw [← e3, upd_same], (k2.put z1 z2 hv).keeps k3⟩
      walk_at "go"
      refine r_in (.inl hia2) rfl (flat_ints _) ?_
      rw [if_neg (by decide), inV_ints]
      walk_at "go"
      refine r_ite (fun c1 => ?_) (fun c1 => ?_)
      · walk_at "go"
        refine r_index hia2 c1 (fun j hj => ?_)
        have hjl := (List.getElem?_eq_some_iff.mp hj).1
        have hjv : j < pvs.length := by omega
        refine r_ixl (v := pvs[j]) hpa2 (atI_nat (List.getElem?_eq_getElem hjv)) ?_
        walk_at "go"
        rename_i H3 e3 g3
        exact put ⟨_, (pl_at hpl (List.getElem?_eq_getElem hjv)).keeps (Keeps.of s2)⟩ e3
      · walk_at "go"
        rcases hv : valV kvs (Sum.inl z : Key) with _ | v
        · walk_at "go"
          exact ⟨_, _, rfl, s2, g2, k2⟩
        · walk_at "go"
          refine r_kdg2 hd2 hv ?_
          walk_at "go"
          rename_i H3 e3 g3
          exact put ((hk.keeps (Keeps.of s2)).at_ hv) e3
    · rintro σ' H2 ⟨v6, kp, rfl, s2, g2, k2⟩
      have hs2 := s2 _ _ hs
      walk_at "go"
      rename_i q1 nq1 H3 s3 g3 q2 nq2 H4 s4 g4
      have g4' : H4 q2 = some (.lst [v1, v2, v3]) := g4
      refine r_cat (s4 _ _ g3) g4' (by rw [sz]; simp) (fun r nr => ?_)
      generalize hH5 : upd H4 r _ = H5
      have s5 : Same H4 H5 := Sg.Same.of_new hH5 nr
      have g5 : H5 r = some (.lst [.ref p, v1, v2, v3]) := by rw [← hH5, upd_same]; rfl
      have s25 : Same H2 H5 := s3.trans (s4.trans s5)
      have nr2 : H2 r = none := (s3.trans s4).free nr
      have sB : Same H2 (hid r H5) := same_hid s25 nr2
      have hBr : hid r H5 r = none := hid_at
      have sB5 : Same (hid r H5) H5 := hid_same
      generalize hid r H5 = HB at sB hBr sB5
      have set3 : ∀ {w1 w2 w3 y : V} {i : Nat}, i < 3 → ∃ x1 x2 x3, [V.ref p, w1, w2, w3].set (i + 1) y = [.ref p, x1, x2, x3] := fun {w1 w2 w3 y i} hi => by
        match i, hi with
        | 0, _ => exact ⟨y, w2, w3, rfl⟩
        | 1, _ => exact ⟨w1, y, w3, rfl⟩
        | 2, _ => exact ⟨w1, w2, y, rfl⟩
      walk_at "go"
      refine r_cut (fun σ' H' => σ' = [some (.ref sa), some (.ref ia), some (.ref pa), some (.ref ua), some (.int a), some (.ref p), v6, some (.ref r)] ∧ Same HB H' ∧ ∃ w1 w2 w3, H' r = some (.lst [.ref p, w1, w2, w3])) ?_ ?_
      · walk_at "go"
        refine r_ite (fun c1 => ?_) (fun c1 => ?_)
        · walk_at "go"
          refine r_ite (fun c2 => ?_) (fun c2 => ?_)
          · walk_at "go"
            refine r_setl g5 (ixN_ok (n := 4) (by omega) (by omega)) ?_
            generalize hH6 : upd H5 r _ = H6
            refine ⟨rfl, Sg.Same.old sB5 hBr hH6, ?_⟩
            obtain ⟨x1, x2, x3, e⟩ := set3 (w1 := v1) (w2 := v2) (w3 := v3) (y := .ref p) (i := a.toNat - 1) (by omega)
            rw [show a.toNat - 1 + 1 = a.toNat by omega] at e
            exact ⟨x1, x2, x3, by rw [← hH6, upd_same, e]⟩
          · walk_at "go"
            exact ⟨rfl, sB5, _, _, _, g5⟩
        · walk_at "go"
          exact ⟨rfl, sB5, _, _, _, g5⟩
      rintro σ' H6 ⟨rfl, s6, w1, w2, w3, g6⟩
      refine r_cut (fun σ' H' => σ' = [some (.ref sa), some (.ref ia), some (.ref pa), some (.ref ua), some (.int a), some (.ref p), v6, some (.ref r)] ∧ Same HB H' ∧ ∃ w1 w2 w3, H' r = some (.lst [.ref p, w1, w2, w3])) ?_ ?_
      · walk_at "go"
        refine r_ite (fun c1 => ?_) (fun c1 => ?_)
        · walk_at "go"
          refine r_setl g6 (ixN_ok (n := 4) (by omega) (by omega)) ?_
          generalize hH7 : upd H6 r _ = H7
          refine ⟨rfl, Sg.Same.old s6 hBr hH7, ?_⟩
          obtain ⟨x1, x2, x3, e⟩ := set3 (w1 := w1) (w2 := w2) (w3 := w3) (y := .non) (i := (a - 3).toNat - 1) (by omega)
          rw [show (a - 3).toNat - 1 + 1 = (a - 3).toNat by omega] at e
          exact ⟨x1, x2, x3, by rw [← hH7, upd_same, e]⟩
        · walk_at "go"
          exact ⟨rfl, s6, _, _, _, g6⟩
      rintro σ' H7 ⟨rfl, s7, x1, x2, x3, g7⟩
      walk_at "go"
      have s27 : Same H2 H7 := sB.trans s7
      exact q _ _ _ _ _ _ _ (s2.trans s27) (s2.free nr2) np g7 (s27 _ _ g2) (k2.keeps (Keeps.of s27))
/-- how a deed on a log may end -/
inductive Deed (L : Lay) (W : LgM) (D : List (Option BD)) : LgM → List (Option BD) → Prop
  | com (W1 : LgM) (ids used : List Int) (a : Int) (pls : List (Int × Body)) (m : DevM) (c : Cn) (hr : roomW L W ids.length = some W1) (li : (ids.length : Int) ≤ L.pay) (hib : ∀ z ∈ ids, 1 ≤ z ∧ z ≤ L.last) (nd : ids.Nodup) (hus : ∀ z ∈ used, 1 ≤ z ∧ z ≤ L.last) (lp : pls.length = ids.length) (hk : ∀ p ∈ pls, p.1 = 3 ∨ p.1 = 4) (a0 : 0 ≤ a) (a6 : a ≤ 6) :
      Deed L W D { takeW L W1 ⟨1, W.last + 1, 0, .com ids used a⟩ with m := m, cs := c } (writeD L W1 ⟨1, W.last + 1, 0, .com ids used a⟩ pls D)
  | mov (h : Int) (t ids : List Int) (pls : List (Int × Body)) (m : DevM) (c : Cn) (hq : W.queue = h :: t) (li : (ids.length : Int) ≤ L.pay) (hpl : ids.map (fun a => payD (readD D a)) = pls.map some) :
      Deed L W D { takeW L (enterW W h t) ⟨2, W.last + 1, 0, .ints ids⟩ with m := m, cs := c } (writeD L (enterW W h t) ⟨2, W.last + 1, 0, .ints ids⟩ pls D)
  | chk (ns : List Int) (m : DevM) (c : Cn) (hl : IsLive W ns) : Deed L W D { ckW L W ns with m := m, cs := c } (ckDW L (ckW L W ns) D)
  | non (m : DevM) (c : Cn) : Deed L W D { W with m := m, cs := c } D
/-- a deed of the law: one, or a move and a checkpoint -/
def Deeds (L : Lay) (W : LgM) (D : List (Option BD)) (W' : LgM) (D' : List (Option BD)) : Prop := Deed L W D W' D' ∨ ∃ h t ids pls m c ns m2 c2, W.queue = h :: t ∧ (ids.length : Int) ≤ L.pay ∧ ids.map (fun a => payD (readD D a)) = pls.map some ∧ IsLive { takeW L (enterW W h t) ⟨2, W.last + 1, 0, .ints ids⟩ with m := m, cs := c } ns ∧
  W' = { ckW L { takeW L (enterW W h t) ⟨2, W.last + 1, 0, .ints ids⟩ with m := m, cs := c } ns with m := m2, cs := c2 } ∧ D' = ckDW L (ckW L { takeW L (enterW W h t) ⟨2, W.last + 1, 0, .ints ids⟩ with m := m, cs := c } ns) (writeD L (enterW W h t) ⟨2, W.last + 1, 0, .ints ids⟩ pls D)
theorem Fit.deed {L : Lay} {W W' : LgM} {D D' : List (Option BD)} (hC : LayC L) (f : Fit L W D) (h : Deed L W D W' D') : Fit L W' D' := by
  have pay := hC.pay
  cases h with
  | com W1 ids used a pls m c hr li hib nd hus lp hk a0 a6 =>
    obtain ⟨f1, p1, _⟩ := f.room hC li hr
    exact (f1.take hC (d := ⟨1, W.last + 1, 0, .com ids used a⟩) p1 (fun _ _ _ e => by cases e; exact a6)).re rfl rfl rfl rfl rfl rfl
  | mov h t ids pls m c hq li hpl =>
    exact ((f.enter hq).take hC (d := ⟨2, W.last + 1, 0, .ints ids⟩) (by show 0 + 1 + (ids.length : Int) ≤ L.blk; omega) (fun _ _ _ e => by cases e)).re rfl rfl rfl rfl rfl rfl
  | chk ns m c hl => exact f.check.re rfl rfl rfl rfl rfl rfl
  | non m c => exact f.re rfl rfl rfl rfl rfl rfl
theorem Deeds.two {L : Lay} {W W' : LgM} {D D' : List (Option BD)} (h : Deeds L W D W' D') : ∃ W1 D1, Deed L W D W1 D1 ∧ Deed L W1 D1 W' D' := by
  rcases h with h | ⟨h, t, ids, pls, m, c, ns, m2, c2, hq, li, hpl, hl, rfl, rfl⟩
  · exact ⟨W', D', h, .non W'.m W'.cs⟩
  · exact ⟨_, _, .mov h t ids pls m c hq li hpl, .chk ns m2 c2 hl⟩
theorem Fit.deeds {L : Lay} {W W' : LgM} {D D' : List (Option BD)} (hC : LayC L) (f : Fit L W D) (h : Deeds L W D W' D') : Fit L W' D' := by
  obtain ⟨W1, D1, h1, h2⟩ := h.two
  exact (f.deed hC h1).deed hC h2
/-- a log in the middle of a heap -/
structure One (K : PySem.W.Frag) (C CD CC CL : Addr) (L : Lay) (H0 G H : Hp) (la g : Addr) (u : LU) (W : LgM) (D : List (Option BD)) (n : Nat) : Prop where
  f : Frm (mutL g u) G H
  lq : LogQ K C CD CC CL L G H g u W
  bl : Blks K H W.m.shown D
  fit : Fit L W D
  lay : LayAt CL L G la
  kp : Keeps H0 H
  wt : W.m.wait.length ≤ 100 * (n + 1)
section
variable {K : PySem.W.Frag} {C CD CC CL : Addr} {L : Lay} {H0 G H G' H' : Hp} {la g : Addr} {u u' : LU} {W W' : LgM} {D D' : List (Option BD)} {n : Nat}
theorem One.grew (h : One K C CD CC CL L H0 G H la g u W D n) (s : Same H H') : One K C CD CC CL L H0 (grow G H H') H' la g u W D n :=
  ⟨(Stp.same h.f s).frm, h.lq.frame (grow_same h.f.gh) (fun x _ o ho => s _ _ ho) (Keeps.of s), h.bl.keeps (Keeps.of s), h.fit, h.lay.mono (grow_same h.f.gh), h.kp.trans (Keeps.of s), h.wt⟩
theorem One.up (h : One K C CD CC CL L H0 G H la g u W D n) : One K C CD CC CL L H0 G H la g u W D (n + 1) := ⟨h.f, h.lq, h.bl, h.fit, h.lay, h.kp, by have := h.wt; omega⟩
theorem One.deed (hC : LayC L) (h : One K C CD CC CL L H0 G H la g u W D n) (s : LogS K C CD CC CL L g G H u G' H' u' W') (b : Blks K H' W'.m.shown D') (d : Deeds L W D W' D') (w : W'.m.wait.length ≤ W.m.wait.length + 100) : One K C CD CC CL L H0 G' H' la g u' W' D' (n + 1) :=
  ⟨s.st.frm, s.q, b, h.fit.deeds hC d, h.lay.mono s.st.gg, h.kp.trans s.st.kp, by have := h.wt; omega⟩
end

def sp_law_deed (w : World) (K : PySem.W.Frag) (C CD CC CL : Addr) : Sp := fun args_ H Q _ => ∃ (H0 G : Hp) (la g sa d sc : Addr) (u : LU) (W : LgM) (D : List (Option BD)) (L : Lay) (n : Nat) (v1 v2 v3 : V) (kvs : List (Key × V)) (scr : List Int) (ii : Int), args_ = [.ref la, .ref g, .ref sa, .ref sc, .int ii] ∧ One K C CD CC CL L H0 G H la g u W D n ∧ LayC L ∧ G sa = some (.lst [.ref d, v1, v2, v3]) ∧ G d = some (.dK kvs) ∧ Kno K L H kvs ∧ Scr K H0 sc scr ∧ scr.length ≤ 63 ∧ 0 ≤ ii ∧ ii ≤ 100 ∧ n ≤ 100 ∧ ∀ G' H' u' W' D' sa' d' w1 w2 w3 kvs', Same G G' → Keeps H H' → One K C CD CC CL L H0 G' H' la g u' W' D' (n + 1) → Deeds L W D W' D' → G' sa' = some (.lst [.ref d', w1, w2, w3]) → G' d' = some (.dK kvs') → Kno K L H' kvs' → Q (.ref sa') H'
theorem i_law_deed {w : World} {K : PySem.W.Frag} {C CD CC CL : Addr} {args_ : List V} {H : Hp} {Q : V → Hp → Prop} {E : XK} {H0 G : Hp} {la g sa d sc : Addr} {u : LU} {W : LgM} {D : List (Option BD)} {L : Lay} {n : Nat} {v1 v2 v3 : V} {kvs : List (Key × V)} {scr : List Int} {ii : Int} (ev : args_ = [.ref la, .ref g, .ref sa, .ref sc, .int ii]) (S : One K C CD CC CL L H0 G H la g u W D n) (hC : LayC L) (hs : G sa = some (.lst [.ref d, v1, v2, v3])) (hd : G d = some (.dK kvs)) (hk : Kno K L H kvs) (hS : Scr K H0 sc scr) (h63 : scr.length ≤ 63) (i0 : 0 ≤ ii) (i1 : ii ≤ 100) (hn : n ≤ 100) (q : ∀ G' H' u' W' D' sa' d' w1 w2 w3 kvs', Same G G' → Keeps H H' → One K C CD CC CL L H0 G' H' la g u' W' D' (n + 1) → Deeds L W D W' D' → G' sa' = some (.lst [.ref d', w1, w2, w3]) → G' d' = some (.dK kvs') → Kno K L H' kvs' → Q (.ref sa') H') : sp_law_deed w K C CD CC CL args_ H Q E := ⟨H0, G, la, g, sa, d, sc, u, W, D, L, n, v1, v2, v3, kvs, scr, ii, ev, S, hC, hs, hd, hk, hS, h63, i0, i1, hn, q⟩
local macro_rules | `(tactic| walk_at "ca1") => `(tactic| with_reducible (refine' Sg.i_law_deed ?ev ?S ?hC ?hs ?hd ?hk ?hS ?h63 ?i0 ?i1 ?hn ?_; (case ev => (with_unfolding_all rfl)); (case S => (with_unfolding_all walk_at "pr")); (case hC => (with_unfolding_all walk_at "pr")); (case hs => (with_unfolding_all walk_at "pr")); (case hd => (with_unfolding_all walk_at "pr")); (case hk => (with_unfolding_all walk_at "pr")); (case hS => (with_unfolding_all walk_at "pr")); (case h63 => (with_unfolding_all walk_at "pr")); (case i0 => (with_unfolding_all walk_at "pr")); (case i1 => (with_unfolding_all walk_at "pr")); (case hn => (with_unfolding_all walk_at "pr")); intros))

theorem ok_law_deed (T : Txt K mg) : FnOk P w K mg base CX0 7 T.a_law_deed T.fd_law_deed ["layout", "log", "state", "script", "k"] (sp_law_deed w K T.A_Log T.A_Device T.A_Counts T.A_Layout) := by
  refine T.F_law_deed.ok sc_law_deed (fun vs H Q E h => ?_) (fun cdv A outer s H vs Q E hr h => ?_)
  · obtain ⟨H0, G, la, g, sa, d, sc, u, W, D, L, n, v1, v2, v3, kvs, scr, ii, rfl, _⟩ := h
    rfl
  · refine ⟨_, (pss_cons (ps_set (i := 5) sc_law_deed.nd rfl (Or.inl rfl) (pe_call (ok_law_row T) (hr.mono (by decide)) rfl T.m_law_row T.F_law_row.kp T.b_law_row .nil pass0 (pa_cons (pv 3) (pa_cons (pe_op op_add pe_int (pv 4)) pa_nil))))
       (pss_cons (ps_asg (pe_call (ok_law_digits T) (hr.mono (by decide)) rfl T.m_law_digits T.F_law_digits.kp T.b_law_digits .nil pass0 (pa_cons (pv 5) (pa_cons (pe_lst (pa_cons pe_int (pa_cons pe_int (pa_cons pe_int (pa_cons (pe_op op_add (pe_fld (pv 0) rfl) pe_int) (pa_cons pe_int pa_nil)))))) pa_nil))) (pg_unl (by rfl) (pgs_cons (pg_name (i := 6) sc_law_deed.nd rfl (Or.inl rfl)) (pgs_cons (pg_name (i := 7) sc_law_deed.nd rfl (Or.inl rfl)) (pgs_cons (pg_name (i := 8) sc_law_deed.nd rfl (Or.inl rfl)) (pgs_cons (pg_name (i := 9) sc_law_deed.nd rfl (Or.inl rfl)) (pgs_cons (pg_name (i := 10) sc_law_deed.nd rfl (Or.inr rfl)) pgs_nil)))))))
       (C8.pss_cut (ps_if (pt_cmpR op_gt (pv 7) pe_int (nomark _))
       (pss_one (ps_set (i := 7) sc_law_deed.nd rfl (Or.inl rfl) pe_int))
       pss_nil)
       (C8.pss_cut (ps_if (pt_cmpR op_lt (pv 6) pe_int (nomark _))
       (pss_cons (ps_set (i := 11) sc_law_deed.nd rfl (Or.inl rfl) (pe_call (ok_law_ids T) (hr.mono (by decide)) rfl T.m_law_ids T.F_law_ids.kp T.b_law_ids .nil pass0 (pa_cons (pv 0) (pa_cons (pe_op op_fdiv (pv 5) pe_int) pa_nil))))
       (pss_cons (ps_set (i := 12) sc_law_deed.nd rfl (Or.inl rfl) (pe_call (ok_law_payloads T) (hr.mono (by decide)) rfl T.m_law_payloads T.F_law_payloads.kp T.b_law_payloads .nil pass0 (pa_cons (pv 0) (pa_cons (pe_call (ok_law_row T) (hr.mono (by decide)) rfl T.m_law_row T.F_law_row.kp T.b_law_row .nil pass0 (pa_cons (pv 3) (pa_cons (pe_op op_add pe_int (pv 4)) pa_nil))) (pa_cons (pe_callB (c_len) (by rfl) T.n_len (by decide +kernel) (pa_cons (pv 11) pa_nil)) pa_nil)))))
       (pss_cons (ps_set (i := 13) sc_law_deed.nd rfl (Or.inl rfl) (pe_call (ok_law_used T) (hr.mono (by decide)) rfl T.m_law_used T.F_law_used.kp T.b_law_used .nil pass0 (pa_cons (pv 0) (pa_cons (pe_ix ix_list (pv 2) pe_int (fun _ _ => rfl)) (pa_cons (pv 11) (pa_cons (pv 8) pa_nil))))))
       (pss_one (ps_if (pt_val (pe_call (ok_append_commit T) (hr.mono (by decide)) rfl T.m_append_commit T.F_append_commit.kp T.b_append_commit .nil pass0 (pa_cons (pv 1) (pa_cons (pv 11) (pa_cons (pv 12) (pa_cons (pv 13) (pa_cons (pv 7) pa_nil)))))))
       (pss_one (ps_ret (pe_call (ok_law_after T) (hr.mono (by decide)) rfl T.m_law_after T.F_law_after.kp T.b_law_after .nil pass0 (pa_cons (pv 2) (pa_cons (pv 11) (pa_cons (pv 12) (pa_cons (pv 13) (pa_cons (pv 7) pa_nil))))))))
       pss_nil)))))
       (pss_one (ps_if (pt_cmpR op_eq (pv 6) pe_int (nomark _))
       (pss_cons (ps_set (i := 14) sc_law_deed.nd rfl (Or.inl rfl) (pe_call (ok_law_live T) (hr.mono (by decide)) rfl T.m_law_live T.F_law_live.kp T.b_law_live .nil pass0 (pa_cons (pv 1) pa_nil)))
       (pss_one (ps_expr (pe_call (ok_append_move T) (hr.mono (by decide)) rfl T.m_append_move T.F_append_move.kp T.b_append_move .nil pass0 (pa_cons (pv 1) (pa_cons (pe_slice sl_list (pe_slice sl_list (pv 14) (po_some (pe_op op_mod (pv 10) (pe_op op_add (pe_callB (c_len) (by rfl) T.n_len (by decide +kernel) (pa_cons (pv 14) pa_nil)) pe_int))) po_none) po_none (po_some (pv 9))) pa_nil))))))
       (pss_one (ps_if (pt_cmpR op_eq (pv 6) pe_int (nomark _))
       (pss_one (ps_expr (pe_call (ok_write_checkpoint T) (hr.mono (by decide)) rfl T.m_write_checkpoint T.F_write_checkpoint.kp T.b_write_checkpoint .nil pass0 (pa_cons (pv 1) pa_nil))))
       (pss_one (ps_if (pt_cmpR op_eq (pv 6) pe_int (nomark _))
       (pss_one (ps_expr (pe_call (ok_sync_log T) (hr.mono (by decide)) rfl T.m_sync_log T.F_sync_log.kp T.b_sync_log .nil pass0 (pa_cons (pv 1) pa_nil))))
       (pss_one (ps_expr (pe_call (ok_fill T) (hr.mono (by decide)) rfl T.m_fill T.F_fill.kp T.b_fill .nil pass0 (pa_cons (pv 1) (pa_cons (pe_lc (own := [("j", 15)]) (g := gName 15) (tt := tYes) rfl sc_law_deed.nd (pi_range1 rfl T.n_range (pa_cons (pv 9) pa_nil)) (blkOk_by (own := [("j", 15)]) (N := n_law_deed) (sc := defScope s_law_deed) (by decide +kernel)) (fun _ _ _ _ _ => pg_name (i := 15) sc_law_deed.nd rfl (Or.inl rfl)) (fun _ _ _ _ _ => pts_nil) (fun _ _ _ _ _ => (pe_op op_mod (pe_callTy c_int (by rfl) T.n_int (by decide +kernel) (pa_cons (pe_op op_add (pv 10) (pe_op op_mul pe_int (pv 15))) pa_nil)) (pe_fldK K rfl (pv 0) rfl)))) pa_nil))))))))))))
       (pss_one (ps_ret (pv 2))))))), ?_⟩
    try dsimp only [cxOf, Cx.nox, Cx.wish]
    obtain ⟨H0, G, la, g, sa, d, sc, u, W, D, L, n, v1, v2, v3, kvs, scr, ii, rfl, S, hC, hs, hd, hk, hS, h63, i0, i1, hn, q⟩ := h
    have cl_Layout := T.cl_Layout
    have na_Layout_payload := T.na_Layout_payload
    have na_Layout_segments := T.na_Layout_segments
    have hS10 : SqL K H sc (scr.map V.int) := hS H S.kp
    obtain ⟨dxl, fsl, hl10, Fl⟩ := S.lay.mono S.f.gh
    have m1 := Fl.pay
    have pay := hC.pay
    have b0 := hC.b0
    have b1 := hC.b1
    walk_at "go"
    rename_i rw rw0 pz nz Hz sz' gz kd kd0 kd1 ac ac0 ac1 dr dr0 dr1 sz sz0 sz1 st st0 st1 H14 dl' s11 n11 g11
    have S14 := S.grew (sz'.trans s11)
    have k14 : Keeps H H14 := Keeps.of (sz'.trans s11)
    have hk14 := hk.keeps k14
    have sg14 := grow_same (H' := H14) S.f.gh
    generalize grow G H H14 = G14 at S14 sg14
    generalize hWe : W = W14 at S14
    have hs14G := sg14 _ _ hs
    have hd14G := sg14 _ _ hd
    refine r_cut (fun σ' H' => ∃ ac', 0 ≤ ac' ∧ ac' ≤ 6 ∧ H14 = H' ∧ σ' = [some (.ref la), some (.ref g), some (.ref sa), some (.ref sc), some (.int ii), some (.int rw), some (.int kd), some (.int ac'), some (.int dr), some (.int sz), some (.int st), none, none, none, none, none]) ?_ ?_
    · walk_at "go"
      refine r_ite (fun c => ?_) (fun c => ?_)
      · walk_at "go"
        exact ⟨0, by decide, by decide, rfl, rfl⟩
      · walk_at "go"
        exact ⟨ac, ac0, by omega, rfl, rfl⟩
    rintro σ' _ ⟨ac', ac'0, ac'6, rfl, rfl⟩
    clear S
    have wt14 := S14.wt
    have hly14 := S14.lay.mono S14.f.gh
    have hS14 : SqL K H14 sc (scr.map V.int) := hS H14 S14.kp
    refine r_cut (fun σ' H' => ∃ (G' : Hp) (u' : LU) (W' : LgM) (D' : List (Option BD)) (v11 v12 v13 v14 : Option V), σ' = [some (.ref la), some (.ref g), some (.ref sa), some (.ref sc), some (.int ii), some (.int rw), some (.int kd), some (.int ac'), some (.int dr), some (.int sz), some (.int st), v11, v12, v13, v14, none] ∧ Same G14 G' ∧ Keeps H14 H' ∧ One K T.A_Log T.A_Device T.A_Counts T.A_Layout L H0 G' H' la g u' W' D' (n + 1) ∧ Deeds L W14 D W' D') ?_ ?_
    · walk_at "go"
      refine r_ite (fun ck => ?_) (fun ck => ?_)
      · walk_at "go"
        rename_i H16 ia ids s16 n16 gia li hib nd rw2 rw20
        rw [List.length_map]
        walk_at "go"
        rename_i H17 pa pvs pls s17 n17 gpa hpl lpl hkd
        have s1617 := s16.trans s17
        have hd17 := s1617 _ _ (S14.f.gh _ _ hd14G)
        have hs17 := s1617 _ _ (S14.f.gh _ _ hs14G)
        have hly17 := hly14.mono s1617
        have gia17 := s17 _ _ gia
        walk_at "go"
        rename_i H18 ua used s18 n18 gua lu hus
        have sx : Same H14 H18 := s1617.trans s18
        have S18 := S14.grew sx
        have iaG : grow G14 H14 H18 ia = some (.lst (ids.map V.int)) := by rw [grow_new n16]; exact s18 _ _ gia17
        have paG : grow G14 H14 H18 pa = some (.lst pvs) := by rw [grow_new (s16.free n17)]; exact s18 _ _ gpa
        have uaG : grow G14 H14 H18 ua = some (.lst (used.map V.int)) := by rw [grow_new (s1617.free n18)]; exact gua
        have hpl18 := pls_keeps (Keeps.of s18) hpl
        have hk18 := hk14.keeps (Keeps.of sx)
        have sg18 := grow_same (H' := H18) S14.f.gh
        generalize grow G14 H14 H18 = G18 at S18 iaG paG uaG sg18
        have lpl' : pls.length = ids.length := by omega
        refine i_append_commit (W := W14) (L := L) (D := D) (pvs := pvs) (pls := pls) (ids := ids) (used := used) rfl S18.lq S18.f hC S18.fit.ok S18.fit.q (.of iaG) (.of uaG) (.of paG) hpl18 S18.bl (by omega) (by omega) lpl' ac'0 ac'6 (by omega) (fun hr => ?_) (fun W1 hr G20 H20 u20 m20 L20 ms20 B20 => ?_)
        · walk_at "go"
          exact ⟨G18, u, W14, D, _, _, _, _, rfl, sg18, Keeps.of sx, S18.up, .inl (.non W14.m W14.cs)⟩
        · have dd : Deeds L W14 D _ _ := .inl (.com W1 ids used ac' pls m20 { W14.cs with c := W14.cs.c + 1, cb := W14.cs.cb + (1 + pls.length) } hr li hib nd hus lpl' hkd ac'0 ac'6)
          have S20 := S18.deed hC L20 B20 dd (by have := ms20.wt; show m20.wait.length ≤ _; omega)
          have sg20 := L20.st.gg
          have gh20 := S20.f.gh
          have hs20 := gh20 _ _ (sg20 _ _ (sg18 _ _ hs14G))
          have hd20 := gh20 _ _ (sg20 _ _ (sg18 _ _ hd14G))
          have hk20 := hk18.keeps L20.st.kp
          have ia20 : SqL K H20 ia (ids.map V.int) := .of (gh20 _ _ (sg20 _ _ iaG))
          have ua20 : SqL K H20 ua (used.map V.int) := .of (gh20 _ _ (sg20 _ _ uaG))
          have pa20 : SqL K H20 pa pvs := .of (gh20 _ _ (sg20 _ _ paG))
          have hpl20 := pls_keeps L20.st.kp hpl18
          walk_at "go"
          rename_i H21 sa' d' w1 w2 w3 kvs' s21 nsa nd' gsa gd' hk'
          have S21 := S20.grew s21
          subst hWe
          exact q _ H21 u20 _ _ sa' d' w1 w2 w3 kvs' (((sg14.trans sg18).trans sg20).trans (grow_same S20.f.gh)) (k14.trans ((Keeps.of sx).trans (L20.st.kp.trans (Keeps.of s21)))) S21 dd (by rw [grow_new nsa]; exact gsa) (by rw [grow_new nd']; exact gd') hk'
      · walk_at "go"
        refine r_ite (fun ck2 => ?_) (fun ck2 => ?_)
        · have hQ14 := S14.lq
          have hG14 := S14.f.gh
          have hW14 := S14.fit.ok
          walk_at "go"
          rename_i H15 lv ns s15 n15 glv hl z hz z0 z1 H16 p16 s16 n16 g16 H17 ad s17 n17 gad
          have d1 := hC.d1
          have r0 := hC.r0
          have A0s : ((ns.drop z.toNat).take sz.toNat).Sublist ns := (List.take_sublist _ _).trans (List.drop_sublist _ _)
          have nl := live_len hC S14.fit.va hl
          have A0l := A0s.length_le
          generalize (ns.drop z.toNat).take sz.toNat = A at gad A0s A0l
          have sx : Same H14 H17 := s15.trans (s16.trans s17)
          have S18 := S14.grew sx
          have adG : grow G14 H14 H17 ad = some (.lst (A.map V.int)) := by rw [grow_new ((s15.trans s16).free n17)]; exact gad
          have sg18 := grow_same (H' := H17) S14.f.gh
          generalize grow G14 H14 H17 = G18 at S18 adG sg18
          refine i_append_move (W := W14) (L := L) (D := D) (ids := A) rfl S18.lq S18.f hC S18.fit.ok S18.fit.q (.of adG) S18.bl (by omega) (by omega) (fun _ H20 s20 => ?_) (fun h t pls hqu hpay hpl G20 H20 u20 m20 L20 ms20 B20 => ?_)
          · have S20 := S18.grew s20
            walk_at "go"
            exact ⟨_, u, W14, D, _, _, _, _, rfl, sg18.trans (grow_same S18.f.gh), Keeps.of (sx.trans s20), S20.up, .inl (.non W14.m W14.cs)⟩
          · have lpl : pls.length = A.length := by
              have := congrArg List.length hpl
              rw [List.length_map, List.length_map] at this
              exact this.symm
            have dd : Deeds L W14 D _ _ := .inl (.mov h t A pls m20 { W14.cs with m := W14.cs.m + 1, mb := W14.cs.mb + (1 + pls.length) } hqu hpay hpl)
            have S20 := S18.deed hC L20 B20 dd (by have := ms20.wt; show m20.wait.length ≤ _; omega)
            walk_at "go"
            exact ⟨_, u20, _, _, _, _, _, _, rfl, sg18.trans L20.st.gg, (Keeps.of sx).trans L20.st.kp, S20, dd⟩
        · walk_at "go"
          have r1 := hC.r1
          refine r_ite (fun ck3 => ?_) (fun ck3 => ?_)
          · walk_at "go"
            refine i_write_checkpoint (W := W14) (L := L) (D := D) rfl S14.lq S14.f hC (S14.fit.win hC) S14.bl (by omega) (fun G16 H16 u16 m16 ns hl L16 ms16 _ B16 => ?_)
            have dd : Deeds L W14 D _ _ := .inl (.chk ns m16 { W14.cs with k := W14.cs.k + 1, kb := W14.cs.kb + L.reg, b := W14.cs.b + 2 } hl)
            have S16 := S14.deed hC L16 B16 dd (by have := ms16.wt; show m16.wait.length ≤ _; omega)
            walk_at "go"
            exact ⟨_, u16, _, _, _, _, _, _, rfl, L16.st.gg, L16.st.kp, S16, dd⟩
          · walk_at "go"
            refine r_ite (fun ck4 => ?_) (fun ck4 => ?_)
            · walk_at "go"
              refine i_sync_log rfl S14.lq S14.f (fun G16 H16 u16 L16 => ?_)
              have dd : Deeds L W14 D _ _ := .inl (.non (barrierF W14.m) { W14.cs with b := W14.cs.b + 1 })
              have S16 := S14.deed hC L16 (by show Blks K H16 (barrierF W14.m).shown D; rw [bar_shown]; exact S14.bl.keeps L16.st.kp) dd (by have := (MS.barrier (N := 0) (m := W14.m)).wt; show (barrierF W14.m).wait.length ≤ _; omega)
              walk_at "go"
              exact ⟨_, u16, _, _, _, _, _, _, rfl, L16.st.gg, L16.st.kp, S16, dd⟩
            · walk_at "go"
              refine r_lcI (fun _ _ => True) (by omega) rfl (fun i H' hi s1 R hR => ?_) (fun H15 oa order s15 n15 goa eo _ => ?_)
              · obtain ⟨dxl, fsl, hl15, Fl⟩ := hly14.mono s1
                have m1 := Fl.seg
                have s0 := hC.s0
                walk_at "go"
                exact hR _ trivial
              · have S18 := S14.grew s15
                have hQ18 := S18.lq
                have sg18 := grow_same (H' := H15) S14.f.gh
                generalize grow G14 H14 H15 = G18 at S18 sg18
                walk_at "go"
                refine i_fill (L := L) (D := D) (order := order) rfl S18.lq S18.f hC S18.fit S18.bl (.of goa) (by omega) (by omega) (fun ns hl hc H16 s16 => ?_) (fun ns h t pls hl ne hqu hpl G16 H16 u16 m1' c1 m2 c2 ns1 hl1 L16 ms16 B16 => ?_)
                · have S20 := S18.grew s16
                  walk_at "go"
                  exact ⟨_, u, W14, D, _, _, _, _, rfl, sg18.trans (grow_same S18.f.gh), Keeps.of (s15.trans s16), S20.up, .inl (.non W14.m W14.cs)⟩
                · have lc : ((cargL L W14 ns order).length : Int) ≤ L.pay := by unfold cargL; rw [List.length_take]; omega
                  have dd : Deeds L W14 D _ _ := .inr ⟨h, t, cargL L W14 ns order, pls, m1', c1, ns1, m2, c2, hqu, lc, hpl, hl1, rfl, rfl⟩
                  have S16 := S18.deed hC L16 B16 dd (by have := ms16.wt; show m2.wait.length ≤ _; omega)
                  walk_at "go"
                  exact ⟨_, u16, _, _, _, _, _, _, rfl, sg18.trans L16.st.gg, (Keeps.of s15).trans L16.st.kp, S16, dd⟩
    rintro σ' H20 ⟨G20, u20, W20, D20, v11, v12, v13, v14, rfl, sg20, k20, S20, hD⟩
    walk_at "go"
    subst hWe
    exact q G20 H20 u20 W20 D20 sa d v1 v2 v3 kvs (sg14.trans sg20) (k14.trans k20) S20 hD (sg20 _ _ hs14G) (sg20 _ _ hd14G) (hk14.keeps k20)

/-! ### rows of segments, by the law -/
def condF (W : LgM) (s : Int) : Str := if s ∈ W.queue then "free" else if s = W.head then "head" else "used"
def newF (L : Lay) (D : List (Option BD)) (s : Int) : Nat → Int
  | 0 => 0
  | p + 1 => match readD D (2 * L.reg + s * L.blk + (p : Nat)) with
    | none => newF L D s p
    | some b => max (newF L D s p) b.seq
def rowF (L : Lay) (W : LgM) (D : List (Option BD)) (ns : List Int) (s : Nat) : Str × Int × Int := (condF W (s : Int), (cn L ns s : Int), W.last - newF L D (s : Int) L.blk.toNat)
def rowsF (L : Lay) (W : LgM) (D : List (Option BD)) (ns : List Int) (n : Nat) : List (Str × Int × Int) := (List.range n).map (rowF L W D ns)
theorem rowsF_snoc {L : Lay} {W : LgM} {D : List (Option BD)} {ns : List Int} {n : Nat} : rowsF L W D ns (n + 1) = rowsF L W D ns n ++ [rowF L W D ns n] := by
  unfold rowsF
  rw [List.range_succ, List.map_append]
  rfl
def RowAt (K : PySem.W.Frag) (H : Hp) (v : V) (r : Str × Int × Int) : Prop := ∃ t : Addr, v = .ref t ∧ SqT K H t [.str r.1, .int r.2.1, .int r.2.2]
theorem RowAt.keeps {K : PySem.W.Frag} {H H' : Hp} (s : Keeps H H') {v : V} {r : Str × Int × Int} (h : RowAt K H v r) : RowAt K H' v r := by
  obtain ⟨t, e, h⟩ := h
  exact ⟨t, e, s.tup h⟩
abbrev RowsAt (K : PySem.W.Frag) (H : Hp) (vs : List V) (rs : List (Str × Int × Int)) : Prop := Paired (RowAt K H) vs rs
theorem RowsAt.keeps {K : PySem.W.Frag} {H H' : Hp} (s : Keeps H H') : ∀ {vs : List V} {rs : List (Str × Int × Int)}, RowsAt K H vs rs → RowsAt K H' vs rs
  | _, _, .nil => .nil
  | _, _, .cons h t => .cons (h.keeps s) (RowsAt.keeps s t)
def sp_law_rows (w : World) (K : PySem.W.Frag) (C CD CC CL : Addr) : Sp := fun args_ H Q _ => ∃ (H0 G : Hp) (la g : Addr) (u : LU) (W : LgM) (D : List (Option BD)) (L : Lay) (n : Nat), args_ = [.ref la, .ref g] ∧ One K C CD CC CL L H0 G H la g u W D n ∧ LayC L ∧ ∀ H' l vs ns, Same H H' → H l = none → H' l = some (.lst vs) → RowsAt K H' vs (rowsF L W D ns L.seg.toNat) → IsLive W ns → Q (.ref l) H'
theorem i_law_rows {w : World} {K : PySem.W.Frag} {C CD CC CL : Addr} {args_ : List V} {H : Hp} {Q : V → Hp → Prop} {E : XK} {H0 G : Hp} {la g : Addr} {u : LU} {W : LgM} {D : List (Option BD)} {L : Lay} {n : Nat} (ev : args_ = [.ref la, .ref g]) (S : One K C CD CC CL L H0 G H la g u W D n) (hC : LayC L) (q : ∀ H' l vs ns, Same H H' → H l = none → H' l = some (.lst vs) → RowsAt K H' vs (rowsF L W D ns L.seg.toNat) → IsLive W ns → Q (.ref l) H') : sp_law_rows w K C CD CC CL args_ H Q E := ⟨H0, G, la, g, u, W, D, L, n, ev, S, hC, q⟩
local macro_rules | `(tactic| walk_at "ca1") => `(tactic| with_reducible (refine' Sg.i_law_rows ?ev ?S ?hC ?_; (case ev => (with_unfolding_all rfl)); (case S => (with_unfolding_all walk_at "pr")); (case hC => (with_unfolding_all walk_at "pr")); intros))

theorem ok_law_rows (T : Txt K mg) : FnOk P w K mg base CX0 2 T.a_law_rows T.fd_law_rows ["layout", "log"] (sp_law_rows w K T.A_Log T.A_Device T.A_Counts T.A_Layout) := by
  refine T.F_law_rows.ok sc_law_rows (fun vs H Q E h => ?_) (fun cdv A outer s H vs Q E hr h => ?_)
  · obtain ⟨H0, G, la, g, u, W, D, L, n, rfl, _⟩ := h
    rfl
  · refine ⟨_, (pss_cons (ps_set (i := 2) sc_law_rows.nd rfl (Or.inl rfl) (pe_fld (pv 0) rfl))
       (pss_cons (ps_set (i := 3) sc_law_rows.nd rfl (Or.inl rfl) (pe_op op_rep (pe_lst (pa_cons pe_int pa_nil)) (pe_fld (pv 0) rfl)))
       (pss_cons (ps_for PassesOwn.never rfl (pi_list (pe_call (ok_law_live T) (hr.mono (by decide)) rfl T.m_law_live T.F_law_live.kp T.b_law_live .nil pass0 (pa_cons (pv 1) pa_nil))) (pg_name (i := 4) sc_law_rows.nd rfl (Or.inl rfl))
       (pss_cons (ps_set (i := 5) sc_law_rows.nd rfl (Or.inl rfl) (pe_op op_fdiv (pe_op op_sub (pv 4) (pe_op op_mul pe_int (pe_fld (pv 0) rfl))) (pv 2)))
       (pss_one (ps_asg (pe_op op_add (pe_ix ix_list (pv 3) (pv 5) (fun _ _ => rfl)) pe_int) (pg_sub (pv 3) (pv 5) set_list)))))
       (pss_cons (ps_set (i := 6) sc_law_rows.nd rfl (Or.inl rfl) (pe_lst pa_nil))
       (pss_cons (ps_for PassesOwn.never rfl (pi_range1 rfl T.n_range (pa_cons (pe_fld (pv 0) rfl) pa_nil)) (pg_name (i := 7) sc_law_rows.nd rfl (Or.inl rfl))
       (pss_cons (ps_set (i := 8) sc_law_rows.nd rfl (Or.inl rfl) pe_int)
       (pss_cons (ps_for PassesOwn.never rfl (pi_range1 rfl T.n_range (pa_cons (pv 2) pa_nil)) (pg_name (i := 9) sc_law_rows.nd rfl (Or.inl rfl))
       (pss_cons (ps_set (i := 10) sc_law_rows.nd rfl (Or.inl rfl) (pe_meth (pe_fld (pv 1) rfl) T.cl_Device T.me_Device_read (ok_Device_read T) (hr.mono (by decide)) T.b_Device_read .nil pass0 (pa_cons (pe_op op_add (pe_op op_add (pe_op op_mul pe_int (pe_fld (pv 0) rfl)) (pe_op op_mul (pv 7) (pv 2))) (pv 9)) pa_nil)))
       (pss_one (ps_if (pt_cmp (pc_notN (pv 10)) rfl)
       (pss_one (ps_set (i := 8) sc_law_rows.nd rfl (Or.inl rfl) (pe_callB (c_max2 rfl) (by rfl) T.n_max (by decide +kernel) (pa_cons (pv 8) (pa_cons (pe_ix ix_tup (pv 10) pe_int (fun _ _ => rfl)) pa_nil)))))
       pss_nil))))
       (pss_cons (ps_set (i := 11) sc_law_rows.nd rfl (Or.inl rfl) pe_str)
       (C8.pss_cut (ps_if (pt_cmpR op_in_seq (pv 7) (pe_fld (pv 1) rfl) (by with_unfolding_all rfl))
       (pss_one (ps_set (i := 11) sc_law_rows.nd rfl (Or.inl rfl) pe_str))
       (pss_one (ps_if (pt_cmpR op_eq (pv 7) (pe_fld (pv 1) rfl) (nomark _))
       (pss_one (ps_set (i := 11) sc_law_rows.nd rfl (Or.inl rfl) pe_str))
       pss_nil)))
       (pss_one (ps_expr (pe_bm PySem.F.plainAttrs_list PySem.F.slot_list_append PySem.F.type_list_append mt_append (pv 6) (pa_cons (pe_tup (pa_cons (pv 11) (pa_cons (pe_ix ix_list (pv 3) (pv 7) (fun _ _ => rfl)) (pa_cons (pe_op op_sub (pe_fld (pv 1) rfl) (pv 8)) pa_nil)))) pa_nil)))))))))
       (pss_one (ps_ret (pv 6)))))))), ?_⟩
    try dsimp only [cxOf, Cx.nox, Cx.wish]
    obtain ⟨H0, G, la, g, u, W, D, L, n, rfl, S, hC, q⟩ := h
    have cl_Device := T.cl_Device
    have cl_Layout := T.cl_Layout
    have cl_Log := T.cl_Log
    have na_Layout_region_blocks := T.na_Layout_region_blocks
    have na_Layout_segment_blocks := T.na_Layout_segment_blocks
    have na_Layout_segments := T.na_Layout_segments
    have na_Log_device := T.na_Log_device
    have na_Log_head := T.na_Log_head
    have na_Log_last_sequence := T.na_Log_last_sequence
    have na_Log_queue := T.na_Log_queue
    obtain ⟨dxl, fsl, hl10, Fl⟩ := S.lay.mono S.f.gh
    have m1 := Fl.blk
    have m2 := Fl.seg
    have m3 := Fl.reg
    have s0 := hC.s0
    have s16 := hC.s1
    have b0 := hC.b0
    have b1 := hC.b1
    have r0 := hC.r0
    have r1 := hC.r1
    walk_at "go"
    rename_i p0 n0 H1 s1 g1 p np H2 s2 g2
    have s12 := s1.trans s2
    have S2 := S.grew s12
    have hQ2 := S2.lq
    have hG2 := S2.f.gh
    have hW2 := S2.fit.ok
    walk_at "go"
    rename_i H3 lv ns s3 nlv glv hlive
    have hV := S.fit.va
    have nlen := live_len hC hV hlive
    have n0p : H p = none := s1.free np
    have npl : p ≠ lv := fun z => by rw [← z, g2] at nlv; cases nlv
    have s13 : Same H H3 := s12.trans s3
    have sB : Same H (hid p H3) := same_hid s13 n0p
    have glB : hid p H3 lv = some (.lst (ns.map V.int)) := by rw [hid_ne (Ne.symm npl)]; exact glv
    have gp3 := s3 _ _ g2
    have hBp : hid p H3 p = none := hid_at
    have sB3 : Same (hid p H3) H3 := hid_same
    generalize hid p H3 = HB at sB glB hBp sB3
    refine r_forL (xs := ns.map V.int) (fun i σ' H' => ∃ v4 v5 : Option V, σ' = [some (.ref la), some (.ref g), some (.int L.blk), some (.ref p), v4, v5, none, none, none, none, none, none] ∧ Same HB H' ∧ H' p = some (.lst ((cnL L (ns.take i)).map V.int))) ⟨_, _, rfl, sB3, ?_⟩ (fun i σ' H' _ ⟨_, _, _, s, _⟩ => .of (s _ _ glB)) ?_ ?_
    · rw [gp3]
      have e : cnL L (ns.take 0) = List.replicate L.seg.toNat 0 := by
        unfold cnL cn
        rw [List.take_zero]
        exact List.eq_replicate_iff.mpr ⟨by rw [List.length_map, List.length_range], fun z hz => by obtain ⟨k, _, rfl⟩ := List.mem_map.mp hz; rfl⟩
      rw [e, List.map_replicate]
    · rintro i x σ' H4 hx ⟨v4, v5, rfl, s4, g4⟩
      rw [List.getElem?_map] at hx
      obtain ⟨z, hz, ex⟩ := Option.map_eq_some_iff.mp hx
      subst ex
      have hzl := (hlive.2 z).mp (List.mem_of_getElem? hz)
      obtain ⟨v1, v2'⟩ : 2 * L.reg ≤ z ∧ z < L.dev := (hV z hzl.1).resolve_left hzl.2
      have hl4 := (sB.trans s4) _ _ hl10
      obtain ⟨e0, e1⟩ := segO_in hC v1 v2'
      have d1 := hC.d1
      unfold segO at e0 e1
      walk_at "go"
      refine r_ixl (.of g4) (at_ints e0 (by rw [cnL_len]; omega)) ?_
      walk_at "go"
      refine r_setl g4 (ixN_ok e0 (by rw [List.length_map, cnL_len]; omega)) ?_
      generalize hH5 : upd H4 _ _ = H5
      rw [set_ints] at hH5
      have et : ns.take (i + 1) = ns.take i ++ [z] := by rw [List.take_add_one, hz]; rfl
      refine ⟨_, _, rfl, Sg.Same.old s4 hBp hH5, ?_⟩
      rw [← hH5, upd_same, et]
      exact congrArg (fun l => some (HO.lst (l.map V.int))) (cnL_snoc (L := L) (a := z) e0 e1)
    rintro σ' H4 ⟨v4, v5, rfl, s4, g4⟩
    rw [List.length_map, List.take_length] at g4
    have sB4 := sB.trans s4
    have hl4 := sB4 _ _ hl10
    walk_at "go"
    rename_i rl nrl H5 s5 g5
    have sH5 : Same H H5 := sB4.trans s5
    have nrl0 : H rl = none := sB4.free nrl
    have sR : Same H (hid rl H5) := same_hid sH5 nrl0
    have plr : p ≠ rl := fun z => by rw [← z, g4] at nrl; cases nrl
    have gpR : hid rl H5 p = some (.lst ((cnL L ns).map V.int)) := by rw [hid_ne plr]; exact s5 _ _ g4
    have hBr : hid rl H5 rl = none := hid_at
    have sR5 : Same (hid rl H5) H5 := hid_same
    generalize hid rl H5 = HR at sR gpR hBr sR5
    refine r_forR (fun i σ' H' => ∃ (v7 v8 v9 v10 v11 : Option V) (vs : List V), σ' = [some (.ref la), some (.ref g), some (.int L.blk), some (.ref p), v4, v5, some (.ref rl), v7, v8, v9, v10, v11] ∧ Same HR H' ∧ H' rl = some (.lst vs) ∧ RowsAt K H' vs (rowsF L W D ns i)) ⟨_, _, _, _, _, [], rfl, sR5, g5, .nil⟩ ?_ ?_
    · rintro i σ' H6 hi ⟨v7, v8, v9, v10, v11, vs, rfl, s6, g6, hr6⟩
      rw [Int.zero_add]
      have sx6 := sR.trans s6
      have S6 := S.grew sx6
      have hl6 := sx6 _ _ hl10
      obtain ⟨dx, fs, hg6, F⟩ := S6.lq.obj
      have f1 := F.dev
      have f2 := F.qa
      have f3 := F.head
      have f4 := F.last
      have hqa6 := S6.f.gh _ _ S6.lq.sta.qa
      obtain ⟨dxd, fsd, usd, hd1, hd2, _⟩ := id S6.lq.dev
      have nR := hd2.nR
      have hDv := S6.lq.dev
      have hB6 := S6.bl
      have gp6 := s6 _ _ gpR
      have his : i < L.seg.toNat := hi
      walk_at "go"
      refine r_forR (fun j σ' H' => ∃ (v9 v10 : Option V), σ' = [some (.ref la), some (.ref g), some (.int L.blk), some (.ref p), v4, v5, some (.ref rl), some (.int (i : Nat)), some (.int (newF L D (i : Nat) j)), v9, v10, v11] ∧ H6 = H') ⟨_, _, rfl, rfl⟩ ?_ ?_
      · rintro j σ' _ hj ⟨v9, v10, rfl, rfl⟩
        rw [Int.zero_add]
        have hr := readD_at (a := 2 * L.reg + (i : Int) * L.blk + (j : Int)) hB6
        have en : newF L D (i : Nat) (j + 1) = match readD D (2 * L.reg + (i : Int) * L.blk + (j : Int)) with
          | none => newF L D (i : Nat) j
          | some b => max (newF L D (i : Nat) j) b.seq := rfl
        walk_at "go"
        generalize readF W.m (2 * L.reg + (i : Int) * L.blk + (j : Int)) = bv at hr
        cases eb : readD D (2 * L.reg + (i : Int) * L.blk + (j : Int)) with
        | none =>
          rw [eb] at hr en
          cases hr
          rw [if_neg (by simp)]
          walk_at "go"
          have e2 : newF L D (i : Nat) (j + 1) = newF L D (i : Nat) j := en
          exact ⟨_, _, by rw [e2]; rfl, rfl⟩
        | some b =>
          rw [eb] at hr en
          obtain ⟨t, bo, rfl, ht, _⟩ := hr
          rw [if_pos (by simp)]
          walk_at "go"
          rename_i mx h1 h2 h3
          have em : newF L D (i : Nat) (j + 1) = mx := by
            have en' : newF L D (i : Nat) (j + 1) = max (newF L D (i : Nat) j) b.seq := en
            omega
          exact ⟨_, _, by rw [em]; rfl, rfl⟩
      rintro σ' _ ⟨v9', v10', rfl, rfl⟩
      walk_at "go"
      refine r_cut (fun σ' H' => σ' = [some (.ref la), some (.ref g), some (.int L.blk), some (.ref p), v4, v5, some (.ref rl), some (.int (i : Nat)), some (.int (newF L D (i : Nat) L.blk.toNat)), v9', v10', some (.str (condF W (i : Nat)))] ∧ H6 = H') ?_ ?_
      · walk_at "go"
        refine r_in (.inl (.of hqa6)) rfl (flat_ints _) ?_
        rw [if_neg (by decide), inV_ints]
        walk_at "go"
        unfold condF
        refine r_ite (fun c1 => ?_) (fun c1 => ?_)
        · rw [if_pos c1]
          walk_at "go"
          exact ⟨rfl, rfl⟩
        · rw [if_neg c1]
          walk_at "go"
          refine r_ite (fun c2 => ?_) (fun c2 => ?_)
          · rw [if_pos c2]
            walk_at "go"
            exact ⟨rfl, rfl⟩
          · rw [if_neg c2]
            walk_at "go"
            exact ⟨rfl, rfl⟩
      rintro σ' _ ⟨rfl, rfl⟩
      have hx := cnL_at (ns := ns) his
      have hc0 : (cnL L ns).length = L.seg.toNat := cnL_len
      walk_at "go"
      refine r_ixl (.of gp6) (at_ints (by omega) (by omega)) ?_
      rw [Int.toNat_natCast, hx]
      walk_at "go"
      rename_i rt nrt H7 s7 g7
      have lv6 : vs.length = i := by have := Paired.length hr6; unfold rowsF at this; rw [List.length_map, List.length_range] at this; exact this
      refine r_app (s7 _ _ g6) (by rw [sz]; omega) ?_
      generalize e8 : upd H7 rl _ = H8
      have k8 : Keeps H6 H8 := (Keeps.of s7).trans (Keeps.upd (s7 _ _ g6) (fun z => nomatch z) e8)
      refine ⟨_, _, _, _, _, _, rfl, Sg.Same.old (s6.trans s7) hBr e8, by rw [← e8, upd_same], ?_⟩
      rw [rowsF_snoc]
      exact paired_snoc (hr6.keeps k8) ⟨rt, rfl, (Keeps.upd (s7 _ _ g6) (fun z => nomatch z) e8).tup (.of g7)⟩
    · rintro σ' H6 ⟨v7, v8, v9, v10, v11, vs, rfl, s6, g6, hr6⟩
      walk_at "go"
      exact q _ _ vs ns (sR.trans s6) nrl0 g6 hr6 hlive
theorem condF_free {W : LgM} {s : Int} : condF W s = ("free" : Str) ↔ s ∈ W.queue := by
  unfold condF
  split
  · rename_i c
    exact ⟨fun _ => c, fun _ => rfl⟩
  · rename_i c
    refine ⟨fun e => ?_, fun h => absurd h c⟩
    split at e
    · exact absurd e (by decide +kernel)
    · exact absurd e (by decide +kernel)
theorem filter_congr_range {n : Nat} {p q : Nat → Bool} (h : ∀ i, i < n → p i = q i) : (List.range n).filter p = (List.range n).filter q := List.filter_congr fun i hi => h i (List.mem_range.mp hi)
def sp_law_candidates (K : PySem.W.Frag) (CL : Addr) : Sp := fun args_ H Q _ => ∃ (la ra : Addr) (L : Lay) (W : LgM) (D : List (Option BD)) (ns : List Int) (vs : List V), args_ = [.ref la, .ref ra] ∧ LayAt CL L H la ∧ LayC L ∧ H ra = some (.lst vs) ∧ RowsAt K H vs (rowsF L W D ns L.seg.toNat) ∧ ∀ H' l, Same H H' → H l = none → H' l = some (.lst ((candL L W ns).map V.int)) → Q (.ref l) H'
theorem i_law_candidates {K : PySem.W.Frag} {CL : Addr} {args_ : List V} {H : Hp} {Q : V → Hp → Prop} {E : XK} {la ra : Addr} {L : Lay} {W : LgM} {D : List (Option BD)} {ns : List Int} {vs : List V} (ev : args_ = [.ref la, .ref ra]) (hL : LayAt CL L H la) (hC : LayC L) (hr : H ra = some (.lst vs)) (hv : RowsAt K H vs (rowsF L W D ns L.seg.toNat)) (q : ∀ H' l, Same H H' → H l = none → H' l = some (.lst ((candL L W ns).map V.int)) → Q (.ref l) H') : sp_law_candidates K CL args_ H Q E := ⟨la, ra, L, W, D, ns, vs, ev, hL, hC, hr, hv, q⟩
local macro_rules | `(tactic| walk_at "ca1") => `(tactic| with_reducible (refine' Sg.i_law_candidates ?ev ?hL ?hC ?hr ?hv ?_; (case ev => (with_unfolding_all rfl)); (case hL => (with_unfolding_all walk_at "pr")); (case hC => (with_unfolding_all walk_at "pr")); (case hr => (with_unfolding_all walk_at "pr")); (case hv => (with_unfolding_all walk_at "pr")); intros))

theorem ok_law_candidates (T : Txt K mg) : FnOk P w K mg base CX0 1 T.a_law_candidates T.fd_law_candidates ["layout", "rows"] (sp_law_candidates K T.A_Layout) := by
  refine T.F_law_candidates.ok sc_law_candidates (fun vs H Q E h => ?_) (fun cdv A outer s H vs Q E hr h => ?_)
  · obtain ⟨la, ra, L, W, D, ns, vs, rfl, _⟩ := h
    rfl
  · refine ⟨_, (pss_one (ps_ret (pe_lc (own := [("k", 2)]) (g := gName 2)  rfl sc_law_candidates.nd (pi_range1 rfl T.n_range (pa_cons (pe_callB (c_len) (by rfl) T.n_len (by decide +kernel) (pa_cons (pv 1) pa_nil)) pa_nil)) (blkOk_by (own := [("k", 2)]) (N := n_law_candidates) (sc := defScope s_law_candidates) (by decide +kernel)) (fun _ _ _ _ _ => pg_name (i := 2) sc_law_candidates.nd rfl (Or.inl rfl)) (fun _ _ _ _ _ => pts_one (PW.pt (pw_and (pt_cmpR op_ne (pe_ix (ix_tupK K rfl) (pe_ix (ix_listK K rfl) (pv 1) (pv 2) (fun _ _ => rfl)) pe_int (fun _ _ => rfl)) pe_str (nomark _)) (pw_and1 (pt_chain op_le op_lt pe_int (pe_ix (ix_tupK K rfl) (pe_ix (ix_listK K rfl) (pv 1) (pv 2) (fun _ _ => rfl)) pe_int (fun _ _ => rfl)) (pe_fldK K rfl (pv 0) rfl)))))) (fun _ _ _ _ _ => (pv 2))))), ?_⟩
    try dsimp only [cxOf, Cx.nox, Cx.wish]
    obtain ⟨la, ra, L, W, D, ns, vs, rfl, hL, hC, hr, hv, q⟩ := h
    have cl_Layout := T.cl_Layout
    have na_Layout_payload := T.na_Layout_payload
    obtain ⟨dxl, fsl, hl10, Fl⟩ := hL
    have m1 := Fl.pay
    have s16 := hC.s1
    have s0 := hC.s0
    have lv : vs.length = L.seg.toNat := by have := Paired.length hv; unfold rowsF at this; rw [List.length_map, List.length_range] at this; exact this
    walk_at "go"
    refine r_lcFX (fun s => decide (0 < cn L ns s) && decide ((cn L ns s : Int) < L.pay) && !decide ((s : Int) ∈ W.queue)) (fun s => (s : Int)) (by omega) rfl ?_ ?_ ?_
    · intro i H2 hi s2 R hR
      have hi' : i < L.seg.toNat := by omega
      have hx := List.getElem?_eq_getElem (l := vs) (i := i) (by omega)
      obtain ⟨r, hr1, hr2⟩ := paired_at hv hx
      unfold rowsF at hr1
      rw [List.getElem?_map, List.getElem?_range hi'] at hr1
      cases hr1
      obtain ⟨t, et, ht⟩ := hr2
      rw [et] at hx
      have hr2' := s2 _ _ hr
      have hl2 := s2 _ _ hl10
      have ht2 : SqT K H2 t [.str (condF W (i : Nat)), .int (cn L ns i : Int), .int (W.last - newF L D (i : Nat) L.blk.toNat)] := Sg.Same.tup s2 ht
      walk_at "go"
      refine r_ixl (.of hr2') (by rw [Int.zero_add]; exact atI_nat hx) ?_
      walk_at "go"
      refine to_ite (fun c1 => ?_) (fun c1 => ?_)
      · have c1 : (i : Int) ∉ W.queue := fun h => by rw [condF_free.mpr h] at c1; exact absurd c1 (by decide +kernel)
        walk_at "go"
        refine r_ixl (.of hr2') (by rw [Int.zero_add]; exact atI_nat hx) ?_
        walk_at "go"
        refine r_ite (fun c2 => ?_) (fun c2 => ?_)
        · walk_at "go"
          have e : (decide (0 < cn L ns i) && decide ((cn L ns i : Int) < L.pay) && !decide ((i : Int) ∈ W.queue)) = decide ((cn L ns i : Int) < L.pay) := by
            rw [decide_eq_true (show 0 < cn L ns i by omega), decide_eq_false c1]
            simp
          rw [e] at hR
          exact hR
        · walk_at "go"
          have e : (decide (0 < cn L ns i) && decide ((cn L ns i : Int) < L.pay) && !decide ((i : Int) ∈ W.queue)) = false := by
            rw [decide_eq_false (show ¬ 0 < cn L ns i by omega)]
            rfl
          rw [e] at hR
          exact hR
      · have c1 : (i : Int) ∈ W.queue := Decidable.byContradiction fun h => by
          have : ¬ condF W (i : Nat) = ("free" : Str) := fun z => h (condF_free.mp z)
          simp [this] at c1
        walk_at "go"
        have e : (decide (0 < cn L ns i) && decide ((cn L ns i : Int) < L.pay) && !decide ((i : Int) ∈ W.queue)) = false := by
          rw [decide_eq_true c1]
          simp
        rw [e] at hR
        exact hR
    · intro i H2 hi s2 R hR
      walk_at "go"
      rw [Int.zero_add]
      exact hR
    · intro H2 l s2 nl gl
      rw [lv] at gl
      walk_at "go"
      exact q _ _ s2 nl gl

local macro_rules | `(tactic| walk_at "rx1") => `(tactic| with_reducible (first | refine' Sg.r_prop ?_ | (refine' Sg.r_kprop ?h ?_; (case h => (with_unfolding_all walk_at "hp"))) | refine' Sg.r_irev ?_ | (refine' Sg.r_kIv ?h ?_; (case h => (with_unfolding_all walk_at "hp"))) | refine' Sg.r_makeN ?_ | refine' Sg.r_callN ?_ | refine' Sg.r_makeSD ?_ | refine' Sg.r_callSD ?_ | refine' Sg.r_methSD ?_ | (refine' Sg.r_kmethSD ?h ?hl ?_; (case h => (with_unfolding_all walk_at "hp")); (case hl => (with_unfolding_all walk_at "lk"))) | refine' Sg.r_tryA ?_ | refine' Sg.r_din ?_ | refine' Sg.r_kdi ?_ | (refine' Sg.r_kdi2 ?h ?_; (case h => (with_unfolding_all walk_at "hp"))) | (refine' Sg.r_kdi2f ?h ?_; (case h => assumption)) | refine' Sg.r_dnotin ?_ | refine' Sg.r_kdn ?_ | (refine' Sg.r_kdn2 ?h ?_; (case h => (with_unfolding_all walk_at "hp"))) | refine' Sg.r_dget ?_ | refine' Sg.r_kdg ?_ | refine' Sg.r_dget1 ?_ | (refine' Sg.r_kdt ?h ?_; (case h => (with_unfolding_all walk_at "hp"))) | (refine' Sg.r_kdt2 ?h ?_; (case h => (with_unfolding_all walk_at "hp"))) | refine' Sg.r_dput ?_ | refine' Sg.r_kdp ?_ | refine' Sg.r_kdp2 ?_ | (refine' Sg.r_kdp3 ?h ?hl ?_; (case h => (with_unfolding_all walk_at "hp")); (case hl => (with_unfolding_all walk_at "side")); (with_unfolding_all walk_at "up")) | refine' Sg.r_ddel ?_ | refine' Sg.r_kdd ?_ | refine' Sg.r_dpop1 ?_ | (refine' Sg.r_kdo ?h ?_; (case h => (with_unfolding_all walk_at "hp"))) | refine' Sg.r_ikeys ?_ | (refine' Sg.r_kIk ?h ?_; (case h => assumption)) | (refine' Sg.r_dnew ?_; (with_unfolding_all walk_at "al")) | (refine' Sg.r_lenD ?h ?_; (case h => (with_unfolding_all walk_at "hp"))) | (refine' Sg.r_dictD ?h ?_; (case h => (with_unfolding_all walk_at "hp")); (with_unfolding_all walk_at "al"))))
local macro_rules | `(tactic| walk_at "rx") => `(tactic| repeat (first | walk_at "rd1" | walk_at "rx1"))
/-! ### ages -/
/-- the addresses below n at which a block stands, with its sequence number -/
def wrtD (D : List (Option BD)) (n : Nat) : List (Int × Int) := (List.range n).filterMap fun a => (D.getD a none).map fun b => ((a : Int), b.seq)
theorem wrtD_none {D : List (Option BD)} {n : Nat} (h : D.getD n none = none) : wrtD D (n + 1) = wrtD D n := by
  unfold wrtD
  rw [List.range_succ, List.filterMap_append, List.filterMap_cons, h]
  simp
theorem wrtD_some {D : List (Option BD)} {n : Nat} {b : BD} (h : D.getD n none = some b) : wrtD D (n + 1) = wrtD D n ++ [((n : Int), b.seq)] := by
  unfold wrtD
  rw [List.range_succ, List.filterMap_append, List.filterMap_cons, h]
  rfl
/-- the newest of them in a segment -/
def nwF (L : Lay) (ps : List (Int × Int)) (s : Int) : Int := ps.foldl (fun m p => if segO L p.1 = s then max m p.2 else m) 0
theorem nwF_snoc {L : Lay} {ps : List (Int × Int)} {p : Int × Int} {s : Int} : nwF L (ps ++ [p]) s = if segO L p.1 = s then max (nwF L ps s) p.2 else nwF L ps s := by
  unfold nwF
  rw [List.foldl_append]
  rfl
theorem segO_at {L : Lay} (hC : LayC L) {a z : Int} : segO L a = z ↔ (2 * L.reg + z * L.blk ≤ a ∧ a < 2 * L.reg + z * L.blk + L.blk) := by
  have b0 := hC.b0
  have hb : 0 < L.blk := by omega
  unfold segO
  constructor
  · intro h
    have h1 := Int.ediv_mul_le (a - 2 * L.reg) (show L.blk ≠ 0 by omega)
    have h2 := Int.lt_ediv_add_one_mul_self (a - 2 * L.reg) hb
    rw [h] at h1 h2
    rw [Int.add_mul, Int.one_mul] at h2
    omega
  · rintro ⟨h1, h2⟩
    have h3 : z ≤ (a - 2 * L.reg) / L.blk := (Int.le_ediv_iff_mul_le hb).mpr (by omega)
    have h4 : (a - 2 * L.reg) / L.blk < z + 1 := Int.ediv_lt_of_lt_mul hb (by rw [Int.add_mul, Int.one_mul]; omega)
    omega
theorem nwF_newF {L : Lay} (hC : LayC L) {D : List (Option BD)} {s : Int} (hs : 0 ≤ s) : ∀ n, n ≤ D.length → nwF L (wrtD D n) s = newF L D s (min L.blk.toNat (n - (2 * L.reg + s * L.blk).toNat))
  | 0, _ => by
    rw [Nat.zero_sub, Nat.min_zero]
    rfl
  | n + 1, hn => by
    have ih := nwF_newF hC hs n (Nat.le_of_succ_le hn)
    have b0 := hC.b0
    have r0 := hC.r0
    have m0 : 0 ≤ s * L.blk := Int.mul_nonneg hs (by omega)
    have hr : readD D (n : Int) = D.getD n none := by
      unfold readD
      rw [if_pos ⟨by omega, by omega⟩, Int.toNat_natCast]
    generalize hst : (2 * L.reg + s * L.blk).toNat = st at ih ⊢
    have est : (st : Int) = 2 * L.reg + s * L.blk := by omega
    have hseg : segO L (n : Int) = s ↔ (st ≤ n ∧ n < st + L.blk.toNat) := by
      rw [segO_at hC]
      omega
    by_cases c : st ≤ n ∧ n < st + L.blk.toNat
    · have e1 : min L.blk.toNat (n + 1 - st) = min L.blk.toNat (n - st) + 1 := by omega
      have e2 : 2 * L.reg + s * L.blk + ((min L.blk.toNat (n - st) : Nat) : Int) = (n : Int) := by omega
      rw [e1]
      show _ = match readD D (2 * L.reg + s * L.blk + ((min L.blk.toNat (n - st) : Nat) : Int)) with
        | none => newF L D s (min L.blk.toNat (n - st))
        | some b => max (newF L D s (min L.blk.toNat (n - st))) b.seq
      rw [e2, hr]
      cases hd : D.getD n none with
      | none => rw [wrtD_none hd]; exact ih
      | some b =>
        rw [wrtD_some hd, nwF_snoc, if_pos (hseg.mpr c), ih]
    · have e1 : min L.blk.toNat (n + 1 - st) = min L.blk.toNat (n - st) := by omega
      rw [e1, ← ih]
      cases hd : D.getD n none with
      | none => rw [wrtD_none hd]
      | some b =>
        rw [wrtD_some hd, nwF_snoc, if_neg (fun z => c (hseg.mp z))]
def agesL (L : Lay) (W : LgM) (D : List (Option BD)) : List Int := (List.range L.seg.toNat).map fun s : Nat => W.last - newF L D (s : Int) L.blk.toNat
theorem nwF_all {L : Lay} (hC : LayC L) {D : List (Option BD)} (hd : (D.length : Int) = L.dev) {s : Nat} (hs : s < L.seg.toNat) : nwF L (wrtD D D.length) (s : Int) = newF L D (s : Int) L.blk.toNat := by
  rw [nwF_newF hC (by omega) _ (Nat.le_refl _)]
  have b0 := hC.b0
  have dv := hC.dv
  have h1 : ((s : Int) + 1) * L.blk ≤ L.seg * L.blk := Int.mul_le_mul_of_nonneg_right (by omega) (by omega)
  rw [Int.add_mul, Int.one_mul] at h1
  have m0 : 0 ≤ (s : Int) * L.blk := Int.mul_nonneg (by omega) (by omega)
  have r0 := hC.r0
  have e : min L.blk.toNat (D.length - (2 * L.reg + (s : Int) * L.blk).toNat) = L.blk.toNat := by omega
  rw [e]
/-- what is handed out, by the blocks -/
def SeqR (K : PySem.W.Frag) (H : Hp) (p : Int × V) (q : Int × Int) : Prop := p.1 = q.1 ∧ ∃ (t b : Addr) (k r : Int), p.2 = .ref t ∧ SqT K H t [.int k, .int q.2, .int r, .ref b]
theorem wrt_seq {K : PySem.W.Frag} {H : Hp} {xs : List V} {D : List (Option BD)} (h : Blks K H xs D) : ∀ n, n ≤ xs.length → Paired (SeqR K H) (wrt xs n) (wrtD D n)
  | 0, _ => .nil
  | n + 1, hn => by
    have ih := wrt_seq h n (Nat.le_of_succ_le hn)
    have hx := List.getElem?_eq_getElem (l := xs) (i := n) (by omega)
    obtain ⟨o, ho, r⟩ := paired_at h hx
    have hd : D.getD n none = o := by rw [List.getD_eq_getElem?_getD, ho]; rfl
    cases o with
    | none =>
      rw [wrt_none hx r, wrtD_none hd]
      exact ih
    | some b =>
      obtain ⟨t, bo, e, ht, _⟩ := r
      rw [wrt_some hx (by rw [e]; exact fun z => nomatch z), wrtD_some hd]
      exact paired_snoc ih ⟨rfl, t, bo, b.kind, b.rank, e, ht⟩
theorem SeqR.mono {K : PySem.W.Frag} {H H' : Hp} (s : Same H H') {p : Int × V} {q : Int × Int} (h : SeqR K H p q) : SeqR K H' p q := by
  obtain ⟨e, t, b, k, r, e2, h⟩ := h
  exact ⟨e, t, b, k, r, e2, Sg.Same.tup s h⟩
def nwL (L : Lay) (ps : List (Int × Int)) : List Int := (List.range L.seg.toNat).map fun s : Nat => nwF L ps (s : Int)
theorem nwL_len {L : Lay} {ps : List (Int × Int)} : (nwL L ps).length = L.seg.toNat := by rw [nwL, List.length_map, List.length_range]
theorem nwL_at {L : Lay} {ps : List (Int × Int)} {s : Nat} (h : s < L.seg.toNat) : (nwL L ps).getD s 0 = nwF L ps (s : Int) := by
  unfold nwL
  rw [List.getD_eq_getElem?_getD, List.getElem?_map, List.getElem?_range h]
  rfl
theorem nwL_in {L : Lay} {ps : List (Int × Int)} {p : Int × Int} (h0 : 0 ≤ segO L p.1) (h1 : segO L p.1 < L.seg) : (nwL L ps).set (segO L p.1).toNat (max (nwF L ps (segO L p.1)) p.2) = nwL L (ps ++ [p]) := by
  apply List.ext_getElem
  · rw [List.length_set, nwL_len, nwL_len]
  · intro k k1 k2
    rw [nwL_len] at k2
    have e : (nwL L (ps ++ [p]))[k]'(by rw [nwL_len]; exact k2) = nwF L (ps ++ [p]) (k : Int) := by
      unfold nwL
      rw [List.getElem_map, List.getElem_range]
    rw [e, List.getElem_set, nwF_snoc]
    by_cases c : (segO L p.1).toNat = k
    · have c' : segO L p.1 = (k : Int) := by omega
      rw [if_pos c, if_pos c', c']
    · have c' : segO L p.1 ≠ (k : Int) := by omega
      rw [if_neg c, if_neg c']
      unfold nwL
      rw [List.getElem_map, List.getElem_range]
theorem nwL_out {L : Lay} (hC : LayC L) {ps : List (Int × Int)} {p : Int × Int} (h : p.1 < 2 * L.reg) : nwL L (ps ++ [p]) = nwL L ps := by
  unfold nwL
  apply List.map_congr_left
  intro s hs
  rw [nwF_snoc, if_neg]
  intro z
  have h1 := ((segO_at hC).mp z).1
  have b0 := hC.b0
  have m0 : 0 ≤ (s : Int) * L.blk := Int.mul_nonneg (by omega) (by omega)
  omega
def sp_ages (w : World) (K : PySem.W.Frag) (C CD CC CL : Addr) : Sp := fun args_ H Q _ => ∃ (H0 G : Hp) (la g : Addr) (u : LU) (W : LgM) (D : List (Option BD)) (L : Lay) (n : Nat), args_ = [.ref g] ∧ One K C CD CC CL L H0 G H la g u W D n ∧ LayC L ∧ ∀ H' l, Same H H' → H l = none → H' l = some (.lst ((agesL L W D).map V.int)) → Q (.ref l) H'
theorem i_ages {w : World} {K : PySem.W.Frag} {C CD CC CL : Addr} {args_ : List V} {H : Hp} {Q : V → Hp → Prop} {E : XK} {H0 G : Hp} {la g : Addr} {u : LU} {W : LgM} {D : List (Option BD)} {L : Lay} {n : Nat} (ev : args_ = [.ref g]) (S : One K C CD CC CL L H0 G H la g u W D n) (hC : LayC L) (q : ∀ H' l, Same H H' → H l = none → H' l = some (.lst ((agesL L W D).map V.int)) → Q (.ref l) H') : sp_ages w K C CD CC CL args_ H Q E := ⟨H0, G, la, g, u, W, D, L, n, ev, S, hC, q⟩
local macro_rules | `(tactic| walk_at "ca1") => `(tactic| with_reducible (refine' Sg.i_ages ?ev ?S ?hC ?_; (case ev => (with_unfolding_all rfl)); (case S => (with_unfolding_all walk_at "pr")); (case hC => (with_unfolding_all walk_at "pr")); intros))

theorem ok_ages (T : Txt K mg) : FnOk P w K mg base CX0 5 T.a_ages T.fd_ages ["log"] (sp_ages w K T.A_Log T.A_Device T.A_Counts T.A_Layout) := by
  refine T.F_ages.ok sc_ages (fun vs H Q E h => ?_) (fun cdv A outer s H vs Q E hr h => ?_)
  · obtain ⟨H0, G, la, g, u, W, D, L, n, rfl, _⟩ := h
    rfl
  · refine ⟨_, (pss_cons (ps_set (i := 1) sc_ages.nd rfl (Or.inl rfl) (pe_op op_rep (pe_lst (pa_cons pe_int pa_nil)) (pe_fld (pe_fld (pv 0) rfl) rfl)))
       (pss_cons (Wk.ps_forW PassesOwn.never rfl (hr.mono (by decide)) (Wk.pi2_meth0 (pe_fld (pv 0) rfl) T.cl_Device T.me_Device_written_blocks (ok_Device_written_blocks T) (hr.mono (by decide)) T.b_Device_written_blocks .nil) (pg_tup (by rfl) (pgs_cons (pg_name (i := 2) sc_ages.nd rfl (Or.inl rfl)) (pgs_cons (pg_name (i := 3) sc_ages.nd rfl (Or.inl rfl)) pgs_nil)))
       (pss_cons (ps_set (i := 4) sc_ages.nd rfl (Or.inl rfl) (pe_call (ok_segment_of T) (hr.mono (by decide)) rfl T.m_segment_of T.F_segment_of.kp T.b_segment_of .nil pass0 (pa_cons (pe_fld (pv 0) rfl) (pa_cons (pv 2) pa_nil))))
       (pss_one (ps_if (pt_cmp (pc_notN (pv 4)) rfl)
       (pss_one (ps_asg (pe_callB (c_max2 rfl) (by rfl) T.n_max (by decide +kernel) (pa_cons (pe_ix ix_list (pv 1) (pv 4) (fun _ _ => rfl)) (pa_cons (pe_ix ix_tup (pv 3) pe_int (fun _ _ => rfl)) pa_nil))) (pg_sub (pv 1) (pv 4) set_list)))
       pss_nil))))
       (pss_one (ps_ret (pe_lc (own := [("sequence", 5)]) (g := gName 5) (tt := tYes) rfl sc_ages.nd (pi_list (pv 1)) (blkOk_by (own := [("sequence", 5)]) (N := n_ages) (sc := defScope s_ages) (by decide +kernel)) (fun _ _ _ _ _ => pg_name (i := 5) sc_ages.nd rfl (Or.inl rfl)) (fun _ _ _ _ _ => pts_nil) (fun _ _ _ _ _ => (pe_op op_sub (pe_fldK K rfl (pv 0) rfl) (pv 5)))))))), ?_⟩
    try dsimp only [cxOf, Cx.nox, Cx.wish]
    obtain ⟨H0, G, la, g, u, W, D, L, n, rfl, S, hC, q⟩ := h
    have cl_Device := T.cl_Device
    have cl_Layout := T.cl_Layout
    have cl_Log := T.cl_Log
    have na_Device_layout := T.na_Device_layout
    have na_Layout_segments := T.na_Layout_segments
    have na_Log_device := T.na_Log_device
    have na_Log_last_sequence := T.na_Log_last_sequence
    have na_Log_layout := T.na_Log_layout
    obtain ⟨dxl, fsl, hl10, Fl⟩ := S.lay.mono S.f.gh
    have m2 := Fl.seg
    have s0 := hC.s0
    have s16 := hC.s1
    have b0 := hC.b0
    have r0 := hC.r0
    have d1 := hC.d1
    have cdv := T.cl_Device
    obtain ⟨dx, fs, hg, F⟩ := S.lq.obj
    have f1 := F.lay
    have f2 := F.dev
    have f3 := F.last
    have hly := S.lq.sta.lay.mono S.f.gh
    obtain ⟨dxl', fsl', hl', Fl'⟩ := id hly
    have m2' := Fl'.seg
    walk_at "go"
    rename_i p0 n0 H1 s1 g1 p np H2 s2 g2
    have s12 := s1.trans s2
    have n0p : H p = none := s1.free np
    have S2 := S.grew s12
    have hB2 := S2.bl
    obtain ⟨dxd, fsd, usd, hd1, hd2, _, _, _, _, hd3, _⟩ := id S2.lq.dev
    have nG := hd2.nG
    have lsh := hd2.shown
    have dl := S.fit.dl
    have bl := Paired.length hB2
    refine r_forW ?_
    refine r_methW ?_
    walk_at "go"
    refine r_kmethW hd1 nG ?_
    refine r_nil ?_
    have hg2 := s12 _ _ hg
    have npd : u.d ≠ p := fun z => by rw [z, g2] at hd1; cases hd1
    have nps : u.sh ≠ p := fun z => by
      have z1 := S.lq.dev
      obtain ⟨_, _, _, _, _, _, _, _, _, z2, _⟩ := z1
      rw [z] at z2
      rw [n0p] at z2
      cases z2
    have npg : g ≠ p := fun z => by rw [z, g2] at hg2; cases hg2
    refine ⟨_, _, ⟨u.d, dxd, fsd, u.sh, W.m.shown, rfl, lsh, by omega, rfl, rfl⟩, ?_⟩
    have sB : Same H (hid p H2) := same_hid s12 n0p
    have hBd : hid p H2 u.d = some (.ins T.A_Device dxd fsd) := by rw [hid_ne npd]; exact hd1
    have hBs : hid p H2 u.sh = some (.lst W.m.shown) := by rw [hid_ne nps]; exact hd3
    have hBB : Blks K (hid p H2) W.m.shown D := hB2.keeps (keeps_hid g2)
    have hBp : hid p H2 p = none := hid_at
    have sB2 : Same (hid p H2) H2 := hid_same
    have hws := wrt_seq hBB W.m.shown.length (Nat.le_refl _)
    rw [show wrtD D W.m.shown.length = wrtD D D.length from by rw [bl]] at hws
    generalize hid p H2 = HB at sB hBd hBs hBB hBp sB2 hws
    have hgB := sB _ _ hg
    have hlyB := hly.mono sB
    refine r_forWs (fun i σ' H' => ∃ v2 v3 v4 v5 : Option V, σ' = [some (.ref g), some (.ref p), v2, v3, v4, v5] ∧ Same HB H' ∧ H' p = some (.lst ((nwL L ((wrtD D D.length).take i)).map V.int))) ⟨_, _, _, _, rfl, sB2, ?_⟩ (fun i σ' H' ⟨_, _, _, _, _, s, _⟩ => ⟨s _ _ hBd, s _ _ hBs⟩) ?_ ?_
    · rw [g2, List.take_zero]
      have e : nwL L [] = List.replicate L.seg.toNat 0 := List.eq_replicate_iff.mpr ⟨nwL_len, fun z hz => by obtain ⟨k, _, rfl⟩ := List.mem_map.mp hz; rfl⟩
      rw [e, List.map_replicate]
    · rintro i a x σ' H4 H5 ea ⟨v2, v3, v4, v5, rfl, s4, g4⟩ s45 ⟨t0, rfl, ht0⟩
      obtain ⟨qv, hq, e1, t, bo, kk, rr, e2, ht⟩ := paired_at hws ea
      obtain ⟨ka, hka, hklt, _, _⟩ := wrt_mem (List.mem_of_getElem? ea) (Nat.le_refl _)
      have s5 := s4.trans s45
      have g5 := s45 _ _ g4
      have ht5 := Sg.Same.tup s5 ht
      have hg5 := s5 _ _ hgB
      have hly5 := hlyB.mono s5
      have et : (wrtD D D.length).take (i + 1) = (wrtD D D.length).take i ++ [qv] := by rw [List.take_add_one, hq]; rfl
      rw [e2] at ht0
      obtain ⟨a1, a2⟩ := a
      obtain ⟨qa, qs⟩ := qv
      have e1 : a1 = qa := e1
      have hka : a1 = (ka : Int) := hka
      subst e1
      have e2 : a2 = .ref t := e2
      subst e2
      walk_at "go"
      by_cases c : a1 < 2 * L.reg
      · refine i_segment_non rfl hly5 hC (by omega) c ?_
        walk_at "go"
        refine ⟨_, _, _, _, rfl, s5, ?_⟩
        rw [et, nwL_out hC c]
        exact g5
      · have c1 : 2 * L.reg ≤ a1 := by omega
        have c2 : a1 < L.dev := by omega
        obtain ⟨e0, e01⟩ := segO_in hC c1 c2
        have lz : (nwL L ((wrtD D D.length).take i)).length = L.seg.toNat := nwL_len
        have gz := nwL_at (L := L) (ps := (wrtD D D.length).take i) (s := (segO L a1).toNat) (by omega)
        rw [show (((segO L a1).toNat : Nat) : Int) = segO L a1 by omega] at gz
        refine i_segment_of rfl hly5 hC c1 c2 ?_
        rw [show (a1 - 2 * L.reg) / L.blk = segO L a1 from rfl]
        walk_at "go"
        refine r_ixl (.of g5) (at_ints e0 (by omega)) ?_
        rw [gz]
        walk_at "go"
        rename_i mx h1 h2 h3
        have em : mx = max (nwF L ((wrtD D D.length).take i) (segO L a1)) qs := by
          have h1' : nwF L ((wrtD D D.length).take i) (segO L a1) ≤ mx := h1
          have h2' : qs ≤ mx := h2
          omega
        refine r_setl g5 (ixN_ok e0 (by rw [List.length_map, lz]; omega)) ?_
        generalize hH6 : upd H5 _ _ = H6
        rw [set_ints] at hH6
        refine ⟨_, _, _, _, rfl, Sg.Same.old s5 hBp hH6, ?_⟩
        rw [← hH6, upd_same, et, em]
        exact congrArg (fun l => some (HO.lst (l.map V.int))) (nwL_in (p := (a1, qs)) e0 e01)
    · rintro σ' H4 H5 ⟨v2, v3, v4, v5, rfl, s4, g4⟩ s45
      have lq := Paired.length hws
      rw [lq, List.take_length] at g4
      have g5 := s45 _ _ g4
      have s5 := s4.trans s45
      have hg5 := s5 _ _ hgB
      have hW : ∀ s : Nat, s < L.seg.toNat → nwF L (wrtD D D.length) (s : Int) = newF L D (s : Int) L.blk.toNat := fun s hs => nwF_all hC dl hs
      walk_at "go"
      refine r_lcLI (ns := nwL L (wrtD D D.length)) (fun i z => z = (agesL L W D).getD i 0) (.of g5) (by rw [nwL_len]; omega) rfl ?_ ?_
      · intro i x H6 hx s6 R hR
        have hg6 := s6 _ _ hg5
        have hi : i < L.seg.toNat := by have := (List.getElem?_eq_some_iff.mp hx).1; rw [nwL_len] at this; exact this
        have ex : x = nwF L (wrtD D D.length) (i : Int) := by
          have := nwL_at (L := L) (ps := wrtD D D.length) hi
          rw [List.getD_eq_getElem?_getD, hx] at this
          exact this
        walk_at "go"
        refine hR _ ?_
        rw [ex, hW i hi]
        unfold agesL
        rw [List.getD_eq_getElem?_getD, List.getElem?_map, List.getElem?_range hi]
        rfl
      · intro H6 l zs s6 nl gl el hz
        have ez : zs = agesL L W D := by
          apply List.ext_getElem
          · rw [el, nwL_len, agesL, List.length_map, List.length_range]
          · intro k k1 k2
            have := hz k _ (List.getElem?_eq_getElem k1)
            rw [this, List.getD_eq_getElem?_getD, List.getElem?_eq_getElem k2]
            rfl
        rw [ez] at gl
        walk_at "go"
        exact q _ _ (sB.trans (s5.trans s6)) ((sB.trans s5).free nl) gl

def csL (c : Cn) : List Int := [c.c, c.cb, c.m, c.mb, c.k, c.kb, c.b]

theorem r_neI {K : PySem.W.Frag} {H : Hp} {a b : Addr} {ns : List Int} {Q : V → Hp → Prop} (ha : SqL K H a (ns.map V.int)) (hb : SqL K H b (ns.map V.int)) (q : Q (.bl false) H) : rNeD K (.ref a) (.ref b) H Q := by
  refine r_ned (Dp.ints ha) (Dp.ints hb) (Fl.intlS ns) (Fl.intlS ns) ?_
  rw [(Fl.intl ns).self]
  exact q
theorem r_eqI {K : PySem.W.Frag} {H : Hp} {a b : Addr} {ns : List Int} {Q : V → Hp → Prop} (ha : SqL K H a (ns.map V.int)) (hb : SqL K H b (ns.map V.int)) (q : Q (.bl true) H) : rEqD K (.ref a) (.ref b) H Q := by
  refine r_eqd (Dp.ints ha) (Dp.ints hb) (Fl.intlS ns) (Fl.intlS ns) ?_
  rw [(Fl.intl ns).self]
  exact q

/-! ### the law asks -/
theorem tyx_tup {K : PySem.W.Frag} {H : Hp} {a : Addr} {xs : List V} (h : SqT K H a xs) : TyX K H (.ref a) (.type "tuple") := by
  rcases h with (h | ⟨o, h⟩) | ⟨o, its, n, h1, h2, _⟩
  · exact .base (.tup h)
  · exact .fTuple h
  · exact .kTuple h1 h2
theorem tyx_lst {K : PySem.W.Frag} {H : Hp} {a : Addr} {xs : List V} (h : SqL K H a xs) : TyX K H (.ref a) (.type "list") := by
  rcases h with (h | ⟨o, h⟩) | ⟨o, its, n, h1, h2, _⟩
  · exact .base (.lst h)
  · exact .base (.frz h)
  · exact .kList h1 h2
local macro_rules | `(tactic| walk_at "tyx") => `(tactic| first | (refine' Sg.tyx_tup ?ha; (case ha => walk_at "hp")) | (refine' Sg.tyx_lst ?ha; (case ha => walk_at "hp")))

/-! ### counts are asked -/
def sp_Counts_blocks_written (C : Addr) : Sp := fun args_ H Q _ => ∃ (a : Addr) (c : Cn), args_ = [.ref a] ∧ CntAt C H a c ∧ Q (.int (c.cb + c.mb + c.kb)) H
theorem i_Counts_blocks_written {C : Addr} {args_ : List V} {H : Hp} {Q : V → Hp → Prop} {E : XK} {a : Addr} {c : Cn} (ev : args_ = [.ref a]) (hc : CntAt C H a c) (q : Q (.int (c.cb + c.mb + c.kb)) H) : sp_Counts_blocks_written C args_ H Q E := ⟨a, c, ev, hc, q⟩
local macro_rules | `(tactic| walk_at "ca1") => `(tactic| with_reducible (refine' Sg.i_Counts_blocks_written ?ev ?hc ?_; (case ev => (with_unfolding_all rfl)); (case hc => (with_unfolding_all walk_at "pr"))))

def sp_Counts_blocks_wanted (C : Addr) : Sp := fun args_ H Q _ => ∃ (a : Addr) (c : Cn), args_ = [.ref a] ∧ CntAt C H a c ∧ Q (.int (c.cb - c.c)) H
theorem i_Counts_blocks_wanted {C : Addr} {args_ : List V} {H : Hp} {Q : V → Hp → Prop} {E : XK} {a : Addr} {c : Cn} (ev : args_ = [.ref a]) (hc : CntAt C H a c) (q : Q (.int (c.cb - c.c)) H) : sp_Counts_blocks_wanted C args_ H Q E := ⟨a, c, ev, hc, q⟩
local macro_rules | `(tactic| walk_at "ca1") => `(tactic| with_reducible (refine' Sg.i_Counts_blocks_wanted ?ev ?hc ?_; (case ev => (with_unfolding_all rfl)); (case hc => (with_unfolding_all walk_at "pr"))))

def sp_Counts_as_row (K : PySem.W.Frag) (C : Addr) : Sp := fun args_ H Q _ => ∃ (a : Addr) (c : Cn), args_ = [.ref a] ∧ CntAt C H a c ∧ ∀ H' p, Same H H' → SqT K H' p ((csL c).map V.int) → Q (.ref p) H'
theorem i_Counts_as_row {K : PySem.W.Frag} {C : Addr} {args_ : List V} {H : Hp} {Q : V → Hp → Prop} {E : XK} {a : Addr} {c : Cn} (ev : args_ = [.ref a]) (hc : CntAt C H a c) (q : ∀ H' p, Same H H' → SqT K H' p ((csL c).map V.int) → Q (.ref p) H') : sp_Counts_as_row K C args_ H Q E := ⟨a, c, ev, hc, q⟩
local macro_rules | `(tactic| walk_at "ca1") => `(tactic| with_reducible (refine' Sg.i_Counts_as_row ?ev ?hc ?_; (case ev => (with_unfolding_all rfl)); (case hc => (with_unfolding_all walk_at "pr")); intros))

def sp_Counts_fork (C : Addr) : Sp := fun args_ H Q _ => ∃ (a : Addr) (c : Cn), args_ = [.ref a] ∧ CntAt C H a c ∧ ∀ H' p, Same H H' → H p = none → CntAt C H' p c → Q (.ref p) H'
theorem i_Counts_fork {C : Addr} {args_ : List V} {H : Hp} {Q : V → Hp → Prop} {E : XK} {a : Addr} {c : Cn} (ev : args_ = [.ref a]) (hc : CntAt C H a c) (q : ∀ H' p, Same H H' → H p = none → CntAt C H' p c → Q (.ref p) H') : sp_Counts_fork C args_ H Q E := ⟨a, c, ev, hc, q⟩
local macro_rules | `(tactic| walk_at "ca1") => `(tactic| with_reducible (refine' Sg.i_Counts_fork ?ev ?hc ?_; (case ev => (with_unfolding_all rfl)); (case hc => (with_unfolding_all walk_at "pr")); intros))

def sp_law_told (K : PySem.W.Frag) (C : Addr) : Sp := fun args_ H Q _ => ∃ (a da : Addr) (c : Cn), args_ = [.ref a, .ref da] ∧ CntAt C H a c ∧ SqL K H da ((csL c).map V.int) ∧ ∀ H', Same H H' → Q (.bl true) H'
theorem i_law_told {K : PySem.W.Frag} {C : Addr} {args_ : List V} {H : Hp} {Q : V → Hp → Prop} {E : XK} {a da : Addr} {c : Cn} (ev : args_ = [.ref a, .ref da]) (hc : CntAt C H a c) (hd : SqL K H da ((csL c).map V.int)) (q : ∀ H', Same H H' → Q (.bl true) H') : sp_law_told K C args_ H Q E := ⟨a, da, c, ev, hc, hd, q⟩
local macro_rules | `(tactic| walk_at "ca1") => `(tactic| with_reducible (refine' Sg.i_law_told ?ev ?hc ?hd ?_; (case ev => (with_unfolding_all rfl)); (case hc => (with_unfolding_all walk_at "pr")); (case hd => (with_unfolding_all walk_at "pr")); intros))

def kRgL (x : V) (Q : V → Hp → Prop) : V → Hp → Prop := fun y H2 => ∃ i j, x = .int i ∧ y = .int j ∧ L2.RgOk i j ∧ ∀ q, H2 q = none → Q (.ref q) (upd H2 q (.lst (L2.rgV i j)))
theorem r_listRg {ta tb : TE} {σ : L2.St} {H : Hp} {Q : V → Hp → Prop} (h : ta σ H fun x H1 => tb σ H1 (kRgL x Q)) : L2.tLstRg (L2.tRg2 ta tb) σ H Q := h
def rgI (i j : Int) : List Int := (List.range (j - i).toNat).map fun k : Nat => i + (k : Int)
theorem rgV_eq {i j : Int} : L2.rgV i j = (rgI i j).map V.int := by
  unfold L2.rgV rgI
  rw [List.map_map]
  rfl
theorem r_kRgL {i j : Int} {Q : V → Hp → Prop} {H : Hp} (h0 : 0 ≤ i) (h1 : i ≤ 1000000) (h2 : 0 ≤ j) (h3 : j ≤ 1000000) (q : ∀ H' p, Same H H' → H p = none → H' p = some (.lst ((rgI i j).map V.int)) → Q (.ref p) H') : kRgL (.int i) Q (.int j) H :=
  ⟨i, j, rfl, rfl, L2.RgOk.of_le h0 (by omega) (by omega) h2, fun p np => q _ p (Same.of_new rfl np) np (by rw [upd_same, rgV_eq])⟩
local macro_rules | `(tactic| walk_at "ca1") => `(tactic| with_reducible (first | refine' Sg.r_listRg ?_ | (refine' Sg.r_kRgL ?h0 ?h1 ?h2 ?h3 ?_; (case h0 => omega); (case h1 => omega); (case h2 => omega); (case h3 => omega); intros)))
theorem rgI_mem {i j z : Int} (h : z ∈ rgI i j) : i ≤ z ∧ z < j := by
  unfold rgI at h
  obtain ⟨k, hk, rfl⟩ := List.mem_map.mp h
  have := List.mem_range.mp hk
  omega
theorem rgI_len {i j : Int} : (rgI i j).length = (j - i).toNat := by unfold rgI; rw [List.length_map, List.length_range]
def initW (m : DevM) (L : Lay) : LgM := { newW m L with queue := rgI 1 L.seg }
theorem initW_in {m : DevM} {L : Lay} (hC : LayC L) : WIn L (initW m L) := by
  have s0 := hC.s0
  have s1 := hC.s1
  have l0 := hC.l0
  refine ⟨⟨List.length_replicate .., rfl, fun ns h => ?_, Int.le_refl 0, by show 0 < L.seg; omega⟩, fun a h => ?_, fun z hz => ?_, ?_, .inr rfl⟩
  · simp [initW, newW] at h
  · rcases h with h | ⟨tb, h, _⟩
    · exact .inl (List.eq_of_mem_replicate h)
    · simp [initW, newW] at h
  · have := rgI_mem hz
    omega
  · show (rgI 1 L.seg).length ≤ 500
    rw [rgI_len]
    omega
theorem initW_live {m : DevM} {L : Lay} : IsLive (initW m L) [] := by
  refine ⟨List.Pairwise.nil, fun a => ⟨fun h => (by cases h), fun ⟨h, n⟩ => ?_⟩⟩
  rcases h with h | ⟨tb, h, _⟩
  · exact absurd (List.eq_of_mem_replicate h) n
  · simp [initW, newW] at h
def bornW (m : DevM) (L : Lay) : LgM := { ckW L (initW m L) [] with cs := ⟨0, 0, 0, 0, 1, L.reg, 2⟩ }
def sp_new_log (w : World) (K : PySem.W.Frag) (C CD CC CL : Addr) : Sp := fun args_ H Q _ => ∃ (G : Hp) (d su sh un : Addr) (m : DevM) (L : Lay) (D : List (Option BD)), args_ = [.ref d] ∧ DevQ CD H d su sh un m ∧ Frm [d, su, sh, un] G H ∧ LayAt CL L G m.lay ∧ LayC L ∧ Blks K H m.shown D ∧ m.wait.length ≤ 1000 ∧ ∀ g u G' H' m', Stp [d, su, sh, un] (mutL g u) G H G' H' → LogQ K C CD CC CL L G' H' g u { bornW m L with m := m' } → MS L.dev.toNat L.reg.toNat m m' → (m.off = false → m.left = none → m'.wait = []) → Blks K H' m'.shown (ckDW L (bornW m L) D) → Q (.ref g) H'
theorem i_new_log {w : World} {K : PySem.W.Frag} {C CD CC CL : Addr} {args_ : List V} {H : Hp} {Q : V → Hp → Prop} {E : XK} {G : Hp} {d su sh un : Addr} {m : DevM} {L : Lay} {D : List (Option BD)} (ev : args_ = [.ref d]) (hD : DevQ CD H d su sh un m) (hF : Frm [d, su, sh, un] G H) (hL : LayAt CL L G m.lay) (hC : LayC L) (hB : Blks K H m.shown D) (hw : m.wait.length ≤ 1000) (q : ∀ g u G' H' m', Stp [d, su, sh, un] (mutL g u) G H G' H' → LogQ K C CD CC CL L G' H' g u { bornW m L with m := m' } → MS L.dev.toNat L.reg.toNat m m' → (m.off = false → m.left = none → m'.wait = []) → Blks K H' m'.shown (ckDW L (bornW m L) D) → Q (.ref g) H') : sp_new_log w K C CD CC CL args_ H Q E := ⟨G, d, su, sh, un, m, L, D, ev, hD, hF, hL, hC, hB, hw, q⟩
local macro_rules | `(tactic| walk_at "ca1") => `(tactic| with_reducible (refine' Sg.i_new_log ?ev ?hD ?hF ?hL ?hC ?hB ?hw ?_; (case ev => (with_unfolding_all rfl)); (case hD => (with_unfolding_all walk_at "pr")); (case hF => (with_unfolding_all walk_at "pr")); (case hL => (with_unfolding_all walk_at "pr")); (case hC => (with_unfolding_all walk_at "pr")); (case hB => (with_unfolding_all walk_at "pr")); (case hw => (with_unfolding_all walk_at "pr")); intros))

theorem ok_new_log (T : Txt K mg) : FnOk P w K mg base CX0 5 T.a_new_log T.fd_new_log ["device"] (sp_new_log w K T.A_Log T.A_Device T.A_Counts T.A_Layout) := by
  refine T.F_new_log.ok sc_new_log (fun vs H Q E h => ?_) (fun cdv A outer s H vs Q E hr h => ?_)
  · obtain ⟨G, d, su, sh, un, m, L, D, rfl, _⟩ := h
    rfl
  · refine ⟨_, (pss_cons (ps_set (i := 1) sc_new_log.nd rfl (Or.inl rfl) (pe_make T.M_Log (ok_Log___init T) (hr.mono (by decide)) rfl T.m_Log T.b_Log___init .nil pass0 (pa_cons (pv 0) pa_nil)))
       (pss_cons (ps_fld (pv 1) (pe_listRg rfl rfl T.n_list (prg_2 rfl T.n_range pe_int (pe_fld (pe_fld (pv 0) rfl) rfl))) rfl)
       (pss_cons (ps_expr (pe_call (ok_write_checkpoint T) (hr.mono (by decide)) rfl T.m_write_checkpoint T.F_write_checkpoint.kp T.b_write_checkpoint .nil pass0 (pa_cons (pv 1) pa_nil)))
       (pss_one (ps_ret (pv 1)))))), ?_⟩
    try dsimp only [cxOf, Cx.nox, Cx.wish]
    obtain ⟨G, d, su, sh, un, m, L, D, rfl, hD, hF, hL, hC, hB, hw, q⟩ := h
    have cl_Device := T.cl_Device
    have cl_Layout := T.cl_Layout
    have cl_Log := T.cl_Log
    have na_Device_layout := T.na_Device_layout
    have na_Layout_segments := T.na_Layout_segments
    have na_Log_layout := T.na_Log_layout
    have na_Log_queue := T.na_Log_queue
    have s0 := hC.s0
    have s1 := hC.s1
    walk_at "go"
    refine i_lognew (K := K) (m := m) rfl hD hF hL hC (fun g u G1 H1 ng st hQ ud => ?_)
    obtain ⟨dx, fs, hg, F⟩ := hQ.obj
    have few := F.few
    have naD := T.na_Device_layout
    obtain ⟨dxd, fsd, usd, hd1, hd2, _⟩ := id hQ.dev
    have lkl := hd2.lay
    rw [ud] at hd1
    obtain ⟨dxl, fsl, hl1, Fl⟩ := hL.mono (st.gg.trans st.gh)
    have m1 := Fl.seg
    have m0 : (newW m L).m = m := rfl
    rw [m0] at lkl
    walk_at "go"
    rename_i H2 qn s2 n2 g2 H3 e3 g3
    have o2 := (Own.start hQ st.frm).same s2
    have o3 := o2.set st.frm (s2 _ _ hg) e3 (F.qa' qn _) rfl (o2.sta.qa' (o2.got n2 g2)) (PartOf.qa' n2)
    have S3 := (o3.done hQ st.frm rfl rfl).to (W2 := initW m L) rfl
    have B3 : Blks K H3 m.shown D := (hB.keeps st.kp).keeps S3.st.kp
    refine i_write_checkpoint (D := D) rfl S3.q S3.st.frm hC (initW_in hC) B3 (by show m.wait.length ≤ 80000; omega) (fun G4 H4 u4 m4 ns hl S4 ms hwt B4 => ?_)
    have e := live_uniq hl initW_live
    subst e
    walk_at "go"
    have e2 : ({ bornW m L with m := m4 } : LgM) = { ckW L (initW m L) [] with m := m4, cs := { (initW m L).cs with k := (initW m L).cs.k + 1, kb := (initW m L).cs.kb + L.reg, b := (initW m L).cs.b + 2 } } := by
      simp [bornW, initW, newW, ckW]
    exact q g u4 G4 H4 m4 (st.trans (S3.trans S4).st) ((S3.trans S4).to e2).q ms hwt B4

/-! ### the law's model of a new log -/
theorem blks_none {K : PySem.W.Frag} {H : Hp} : ∀ n : Nat, Blks K H (List.replicate n V.non) (List.replicate n none)
  | 0 => .nil
  | n + 1 => .cons rfl (blks_none n)
theorem Stp.born {N : List Addr} {G H H' : Hp} (f : Same G H) (s : Same H H') (n : ∀ x ∈ N, H x = none) (l : ∀ x ∈ N, H' x ≠ none) : Stp [] N G H (cut4 N (grow G H H')) H' := by
  have st := Stp.same (M := []) ⟨f, (fun _ h => nomatch h), (fun _ h => nomatch h)⟩ s
  refine ⟨ExL.of s, Keeps.of s, fun x o h => ?_, fun x o h => st.gh _ _ (cut4_same _ _ h), fun x h => ?_, fun x hx => .inr (n x hx), fun x hx => cut4_in hx, l⟩
  · have hx : H x ≠ none := fun z => by rw [f _ _ h] at z; cases z
    rw [cut4_out fun z => hx (n x z), grow_old hx]
    exact h
  · cases z : cut4 N (grow G H H') x with
    | none => exact absurd z h
    | some o => exact st.gn x (by rw [cut4_same _ _ z]; exact fun z => nomatch z)
theorem rgI_nd {i j : Int} : (rgI i j).Nodup := by
  unfold rgI
  refine List.Pairwise.map _ (fun a b h => ?_) List.nodup_range
  omega
theorem initFit {m : DevM} {L : Lay} (hC : LayC L) : Fit L (initW m L) (List.replicate L.dev.toNat none) := by
  have h := initW_in (m := m) hC
  have d0 := hC.d0
  refine ⟨h.ok, h.va, h.q, List.nodup_cons.mpr ⟨fun hm => ?_, rgI_nd⟩, Int.le_refl 0, h.rg, by rw [List.length_replicate]; omega, ?_⟩
  · have := rgI_mem hm
    have e : (initW m L).head = 0 := rfl
    omega
  · have : readD (List.replicate L.dev.toNat none) 0 = none := by
      unfold readD
      split
      · rw [List.getD_eq_getElem?_getD, List.getElem?_replicate]
        split <;> rfl
      · rfl
    rw [this]
    rfl
theorem rgI_of {i : Int} {n : Nat} {zs : List Int} (hl : zs.length = n) (h : ∀ (k : Nat) (z : Int), zs[k]? = some z → z = i + k) : zs = (List.range n).map fun k : Nat => i + (k : Int) := by
  refine List.ext_getElem (by rw [hl, List.length_map, List.length_range]) fun k h1 h2 => ?_
  rw [h k _ (List.getElem?_eq_getElem h1), List.getElem_map, List.getElem_range]

/-! ### what is live stays sound -/
def LiveA (W : LgM) (a : Int) : Prop := InW W a ∧ a ≠ 0
def offO (L : Lay) (a : Int) : Int := (a - 2 * L.reg) % L.blk
theorem at_eq {L : Lay} (a : Int) : a = 2 * L.reg + segO L a * L.blk + offO L a := by
  unfold segO offO
  have := Int.ediv_mul_add_emod (a - 2 * L.reg) L.blk
  omega
theorem off_in {L : Lay} (hC : LayC L) (a : Int) : 0 ≤ offO L a ∧ offO L a < L.blk := by
  have b0 := hC.b0
  exact ⟨Int.emod_nonneg _ (by omega), Int.emod_lt_of_pos _ (by omega)⟩
theorem seg_at {L : Lay} (hC : LayC L) {s o : Int} (o0 : 0 ≤ o) (o1 : o < L.blk) : segO L (2 * L.reg + s * L.blk + o) = s ∧ offO L (2 * L.reg + s * L.blk + o) = o := by
  have b0 := hC.b0
  have e : 2 * L.reg + s * L.blk + o - 2 * L.reg = o + s * L.blk := by omega
  unfold segO offO
  rw [e]
  exact ⟨by rw [Int.add_mul_ediv_right _ _ (by omega), Int.ediv_eq_zero_of_lt o0 o1, Int.zero_add], by rw [Int.add_mul_emod_self_right, Int.emod_eq_of_lt o0 o1]⟩
structure Snd (L : Lay) (W : LgM) (D : List (Option BD)) : Prop where
  pl1 : W.place ≤ L.blk
  liv : ∀ a, LiveA W a → offO L a ≠ 0 ∧ segO L a ∉ W.queue ∧ (segO L a = W.head → offO L a < W.place)
  pay : ∀ a, LiveA W a → ∃ p, payD (readD D a) = some p
  seq : ∀ a b, readD D a = some b → b.seq ≤ W.last
  ne : ∃ a b, readD D a = some b
theorem readD_put {D : List (Option BD)} {a b : Int} {o : Option BD} (hb : 0 ≤ b) : readD (putD D a o) b = readD D b ∨ (a = b ∧ readD (putD D a o) b = o) := by
  by_cases e : a = b
  · subst e
    by_cases h : a < D.length
    · exact .inr ⟨rfl, readD_eq hb h⟩
    · refine .inl ?_
      have : putD D a o = D := by
        unfold putD
        exact if_neg fun z => h z.2
      rw [this]
  · exact .inl (readD_ne e hb)
theorem readD_neg {D : List (Option BD)} {b : Int} (h : b < 0) : readD D b = none := by
  unfold readD
  exact if_neg fun z => by omega
theorem wrN_cases {D : List (Option BD)} {st seq : Int} {pls : List (Int × Body)} {b : Int} (hb : 0 ≤ b) : ∀ n : Nat, readD (wrN D st seq pls n) b = readD D b ∨ ∃ j : Nat, j < n ∧ b = st + (1 + (j : Int)) ∧ readD (wrN D st seq pls n) b = some ⟨(plG pls j).1, seq, 1 + (j : Int), (plG pls j).2⟩
  | 0 => .inl rfl
  | n + 1 => by
    rw [wrN]
    rcases readD_put (D := wrN D st seq pls n) (a := st + (1 + (n : Nat))) (b := b) (o := some ⟨(plG pls n).1, seq, 1 + (n : Nat), (plG pls n).2⟩) hb with h | ⟨h1, h2⟩
    · rw [h]
      rcases wrN_cases hb n with h | ⟨j, h1, h2, h3⟩
      · exact .inl h
      · exact .inr ⟨j, by omega, h2, h3⟩
    · exact .inr ⟨n, by omega, h1.symm, h2⟩
theorem writeD_cases {L : Lay} {W : LgM} {d : BD} {pls : List (Int × Body)} {D : List (Option BD)} {b : Int} (hb : 0 ≤ b) : readD (writeD L W d pls D) b = readD D b ∨ (b = startOf L W ∧ readD (writeD L W d pls D) b = some d) ∨
    ∃ j : Nat, j < pls.length ∧ b = startOf L W + (1 + (j : Int)) ∧ readD (writeD L W d pls D) b = some ⟨(plG pls j).1, d.seq, 1 + (j : Int), (plG pls j).2⟩ := by
  unfold writeD
  rcases wrN_cases (D := putD D (startOf L W) (some d)) (st := startOf L W) (seq := d.seq) (pls := pls) hb pls.length with h | h
  · rw [h]
    rcases readD_put (D := D) (a := startOf L W) (b := b) (o := some d) hb with h | ⟨h1, h2⟩
    · exact .inl h
    · exact .inr (.inl ⟨h1.symm, h2⟩)
  · exact .inr (.inr h)
theorem wrN_hit {D : List (Option BD)} {st seq : Int} {pls : List (Int × Body)} (h0 : 0 ≤ st) {j : Nat} : ∀ n : Nat, j < n → st + (1 + (j : Int)) < D.length → readD (wrN D st seq pls n) (st + (1 + (j : Int))) = some ⟨(plG pls j).1, seq, 1 + (j : Int), (plG pls j).2⟩
  | 0, h, _ => absurd h (Nat.not_lt_zero _)
  | n + 1, h, hl => by
    rw [wrN]
    by_cases e : j = n
    · subst e
      exact readD_eq (by omega) (by rw [wrN_len]; exact hl)
    · rw [readD_ne (by omega) (by omega)]
      exact wrN_hit h0 n (by omega) hl
theorem writeD_hit {L : Lay} {W : LgM} {d : BD} {pls : List (Int × Body)} {D : List (Option BD)} {j : Nat} (h0 : 0 ≤ startOf L W) (hj : j < pls.length) (hl : startOf L W + (1 + (j : Int)) < D.length) : readD (writeD L W d pls D) (startOf L W + (1 + (j : Int))) = some ⟨(plG pls j).1, d.seq, 1 + (j : Int), (plG pls j).2⟩ := by
  unfold writeD
  exact wrN_hit h0 pls.length hj (by rw [putD_len]; exact hl)
theorem ckD_cases {st seq : Int} {ns : List Int} {c : Nat} {D : List (Option BD)} {b : Int} (hb : 0 ≤ b) : ∀ n : Nat, readD (ckD st seq ns c D n) b = readD D b ∨ ∃ j : Nat, j < n ∧ b = st + (j : Int) ∧ readD (ckD st seq ns c D n) b = some (partB seq ns c j)
  | 0 => .inl rfl
  | n + 1 => by
    rw [ckD]
    rcases readD_put (D := ckD st seq ns c D n) (a := st + (n : Nat)) (b := b) (o := some (partB seq ns c n)) hb with h | ⟨h1, h2⟩
    · rw [h]
      rcases ckD_cases hb n with h | ⟨j, h1, h2, h3⟩
      · exact .inl h
      · exact .inr ⟨j, by omega, h2, h3⟩
    · exact .inr ⟨n, by omega, h1.symm, h2⟩
/-- what is live behind a batch -/
theorem commitN_in {T ids : List Int} {st : Int} : ∀ {n : Nat}, n ≤ ids.length → ∀ a ∈ commitN T st ids n, a ∈ T ∨ ∃ j : Nat, j < ids.length ∧ a = st + (j : Int)
  | 0, _, a, h => .inl h
  | n + 1, hn, a, h => by
    rw [commitN] at h
    split at h
    · rcases List.mem_or_eq_of_mem_set h with h | h
      · exact commitN_in (by omega) a h
      · exact .inr ⟨n, by omega, h⟩
    · exact commitN_in (by omega) a h
theorem commitF_in {T ids used : List Int} {st a : Int} (h : a ∈ commitF T st ids used) : a = 0 ∨ a ∈ T ∨ ∃ j : Nat, j < ids.length ∧ a = st + (j : Int) := by
  unfold commitF at h
  obtain ⟨k, hk, e⟩ := List.mem_map.mp h
  have hk := List.mem_range.mp hk
  split at e
  · right
    rw [← e]
    refine commitN_in (Nat.le_refl _) _ ?_
    rw [List.getD_eq_getElem?_getD, List.getElem?_eq_getElem (by rw [commitN_len]; exact hk)]
    exact List.getElem_mem _
  · exact .inl e.symm
theorem moveF_in {T ids : List Int} {st a : Int} (h : a ∈ moveF st ids T) : a = 0 ∨ a ∈ T ∨ ∃ j : Nat, j < ids.length ∧ a = st + (j : Int) := by
  obtain ⟨b, hb, e⟩ := List.mem_map.mp h
  unfold moveOf at e
  split at e
  · exact .inl e.symm
  · cases ef : firstAt ids b ids.length with
    | some j =>
      rw [ef] at e
      exact .inr (.inr ⟨j, (firstAt_some ef).1, e.symm⟩)
    | none =>
      rw [ef] at e
      have e : b = a := e
      exact .inr (.inl (e ▸ hb))
theorem take_live {L : Lay} {W : LgM} {d : BD} {a : Int} (h : LiveA (takeW L W d) a) : LiveA W a ∨ ∃ j : Nat, j < cntOf d ∧ a = startOf L W + (1 + (j : Int)) := by
  obtain ⟨h, nz⟩ := h
  have es : 2 * L.reg + W.head * L.blk + W.place + 1 = startOf L W + 1 := rfl
  rcases e : d.body with ⟨ids⟩ | ⟨ids, used, ac⟩
  · have ec : cntOf d = ids.length := by unfold cntOf; rw [e]
    have fin : ∀ {T : List Int}, a ∈ moveF (startOf L W + 1) ids T → a ∈ T ∨ ∃ j : Nat, j < cntOf d ∧ a = startOf L W + (1 + (j : Int)) := fun hm => by
      rcases moveF_in hm with h | h | ⟨j, h1, h2⟩
      · exact absurd h nz
      · exact .inl h
      · exact .inr ⟨j, by omega, by omega⟩
    unfold InW takeW at h
    rw [takeP_ints e, es] at h
    rcases h with h | ⟨tb, h, k⟩
    · exact (fin h).imp_left fun m => ⟨.inl m, nz⟩
    · obtain ⟨o, ho, eo⟩ := List.mem_map.mp h
      cases o with
      | none => cases eo
      | some tb' =>
        cases eo
        exact (fin k).imp_left fun m => ⟨.inr ⟨tb', ho, m⟩, nz⟩
  · have ec : cntOf d = ids.length := by unfold cntOf; rw [e]
    have fin : ∀ {T : List Int}, a ∈ commitF T (startOf L W + 1) ids used → a ∈ T ∨ ∃ j : Nat, j < cntOf d ∧ a = startOf L W + (1 + (j : Int)) := fun hm => by
      rcases commitF_in hm with h | h | ⟨j, h1, h2⟩
      · exact absurd h nz
      · exact .inl h
      · exact .inr ⟨j, by omega, by omega⟩
    unfold InW takeW at h
    rw [takeP_com e, es] at h
    rcases h with h | ⟨tb, h, k⟩
    · exact (fin h).imp_left fun m => ⟨.inl m, nz⟩
    · have h : some tb ∈ slotsF W.slots (commitF W.present (startOf L W + 1) ids used) ac := h
      have : tb = commitF W.present (startOf L W + 1) ids used ∨ some tb ∈ W.slots := by
        unfold slotsF at h
        split at h
        · rcases List.mem_or_eq_of_mem_set h with h | h
          · exact .inr h
          · cases h; exact .inl rfl
        · split at h
          · rcases List.mem_or_eq_of_mem_set h with h | h
            · exact .inr h
            · cases h
          · exact .inr h
      rcases this with e2 | h2
      · rw [e2] at k
        exact (fin k).imp_left fun m => ⟨.inl m, nz⟩
      · exact .inl ⟨.inr ⟨tb, h2, k⟩, nz⟩
/-- addresses of the head from its place on -/
theorem out_of_head {L : Lay} {W : LgM} (hC : LayC L) {a : Int} {n : Nat} (h : segO L a = W.head → offO L a < W.place) (p0 : 0 ≤ W.place) (p1 : W.place + 1 + n ≤ L.blk) : a < startOf L W ∨ startOf L W + n < a := by
  obtain ⟨o0, o1⟩ := off_in hC a
  have e := at_eq (L := L) a
  have b0 := hC.b0
  unfold startOf
  rcases Int.lt_trichotomy (segO L a) W.head with c | c | c
  · have := Int.mul_le_mul_of_nonneg_right (show segO L a + 1 ≤ W.head by omega) (show 0 ≤ L.blk by omega)
    rw [Int.add_mul, Int.one_mul] at this
    left; omega
  · have := h c
    rw [c] at e
    left; omega
  · have := Int.mul_le_mul_of_nonneg_right (show W.head + 1 ≤ segO L a by omega) (show 0 ≤ L.blk by omega)
    rw [Int.add_mul, Int.one_mul] at this
    right; omega
theorem Snd.enter {L : Lay} {W : LgM} {D : List (Option BD)} (hC : LayC L) (s : Snd L W D) {h : Int} {t : List Int} (e : W.queue = h :: t) : Snd L (enterW W h t) D := by
  refine ⟨by show (0 : Int) ≤ L.blk; have := hC.b0; omega, fun a ha => ?_, s.pay, s.seq, s.ne⟩
  obtain ⟨h1, h2, h3⟩ := s.liv a ha
  rw [e] at h2
  refine ⟨h1, fun z => h2 (List.mem_cons_of_mem _ z), fun z => absurd (List.mem_cons.mpr (.inl z)) h2⟩
theorem Snd.stay {L : Lay} {W : LgM} {D : List (Option BD)} {d : BD} {pls : List (Int × Body)} (hC : LayC L) (f : Fit L W D) (s : Snd L W D) (p1 : W.place + 1 + cntOf d ≤ L.blk) (lp : pls.length = cntOf d) {a : Int} (ha : LiveA W a) : readD (writeD L W d pls D) a = readD D a := by
  have va := (f.va a ha.1).resolve_left ha.2
  have r0 := hC.r0
  obtain ⟨_, _, h3⟩ := s.liv a ha
  have out := out_of_head hC (n := cntOf d) h3 f.p0 p1
  rcases writeD_cases (L := L) (W := W) (d := d) (pls := pls) (D := D) (b := a) (by omega) with h | ⟨h1, _⟩ | ⟨j, h1, h2, _⟩
  · exact h
  · omega
  · omega
theorem Snd.take {L : Lay} {W : LgM} {D : List (Option BD)} {d : BD} {pls : List (Int × Body)} (hC : LayC L) (f : Fit L W D) (s : Snd L W D) (p1 : W.place + 1 + cntOf d ≤ L.blk) (lp : pls.length = cntOf d) (hk : ∀ p ∈ pls, p.1 = 3 ∨ p.1 = 4) (sq : d.seq = W.last + 1) : Snd L (takeW L W d) (writeD L W d pls D) := by
  obtain ⟨st1, st2⟩ := start_in (n := cntOf d) hC f.ok.h0 f.ok.h1 f.p0 p1
  have r0 := hC.r0
  have p0 := f.p0
  have dl := f.dl
  have hq : (takeW L W d).queue = W.queue ∧ (takeW L W d).head = W.head ∧ (takeW L W d).place = W.place + 1 + cntOf d ∧ (takeW L W d).last = d.seq := by
    unfold takeW takeP
    split <;> exact ⟨rfl, rfl, rfl, rfl⟩
  obtain ⟨q1, q2, q3, q4⟩ := hq
  have hnew : ∀ j : Nat, j < cntOf d → segO L (startOf L W + (1 + (j : Int))) = W.head ∧ offO L (startOf L W + (1 + (j : Int))) = W.place + 1 + j := fun j hj => by
    have := seg_at hC (s := W.head) (o := W.place + 1 + (j : Int)) (by omega) (by omega)
    have e : startOf L W + (1 + (j : Int)) = 2 * L.reg + W.head * L.blk + (W.place + 1 + (j : Int)) := by unfold startOf; omega
    rw [e]
    exact this
  refine ⟨by rw [q3]; exact p1, fun a ha => ?_, fun a ha => ?_, fun a b hb => ?_, ?_⟩
  · rw [q1, q2, q3]
    rcases take_live ha with h | ⟨j, hj, rfl⟩
    · obtain ⟨h1, h2, h3⟩ := s.liv a h
      exact ⟨h1, h2, fun z => by have := h3 z; omega⟩
    · obtain ⟨e1, e2⟩ := hnew j hj
      rw [e1, e2]
      exact ⟨by omega, (List.nodup_cons.mp f.nd).1, fun _ => by omega⟩
  · rcases take_live ha with h | ⟨j, hj, rfl⟩
    · rw [s.stay hC f p1 lp h]
      exact s.pay a h
    · rw [writeD_hit (by omega) (by omega) (by omega)]
      have hm : plG pls j ∈ pls := by
        unfold plG
        rw [List.getD_eq_getElem?_getD, List.getElem?_eq_getElem (by omega)]
        exact List.getElem_mem _
      exact ⟨_, by unfold payD; exact if_pos (hk _ hm)⟩
  · rw [q4, sq]
    by_cases c : 0 ≤ a
    · rcases writeD_cases (L := L) (W := W) (d := d) (pls := pls) (D := D) (b := a) c with h | ⟨_, h⟩ | ⟨j, _, _, h⟩
      · rw [h] at hb
        have := s.seq a b hb
        omega
      · rw [h] at hb
        cases hb
        omega
      · rw [h] at hb
        cases hb
        show d.seq ≤ _
        omega
    · rw [readD_neg (by omega)] at hb
      cases hb
  · obtain ⟨a, b, h⟩ := s.ne
    by_cases c : 0 ≤ a
    · rcases writeD_cases (L := L) (W := W) (d := d) (pls := pls) (D := D) (b := a) c with e | ⟨_, e⟩ | ⟨j, _, _, e⟩
      · exact ⟨a, b, e.trans h⟩
      · exact ⟨a, _, e⟩
      · exact ⟨a, _, e⟩
    · rw [readD_neg (by omega)] at h
      cases h
theorem Snd.re {L : Lay} {W W' : LgM} {D : List (Option BD)} (s : Snd L W D) (e1 : W'.present = W.present) (e2 : W'.slots = W.slots) (e3 : W'.head = W.head) (e4 : W'.place = W.place) (e5 : W'.queue = W.queue) (e6 : W'.last = W.last) : Snd L W' D := by
  have lv : ∀ a, LiveA W' a → LiveA W a := fun a h => by
    unfold LiveA InW at h ⊢
    rw [e1, e2] at h
    exact h
  exact ⟨by rw [e4]; exact s.pl1, fun a h => by rw [e3, e4, e5]; exact s.liv a (lv a h), fun a h => s.pay a (lv a h), fun a b h => by rw [e6]; exact s.seq a b h, s.ne⟩
theorem ck_high {L : Lay} {W : LgM} {D : List (Option BD)} {ns : List Int} (hC : LayC L) (rg : W.region = 0 ∨ W.region = 1) {a : Int} (ha : 2 * L.reg ≤ a) : readD (ckDW L (ckW L W ns) D) a = readD D a := by
  have r0 := hC.r0
  unfold ckDW
  rcases ckD_cases (st := (ckW L W ns).region * L.reg) (seq := (ckW L W ns).last) (ns := ckN L (ckW L W ns)) (c := L.fan.toNat) (D := D) (b := a) (by omega) L.reg.toNat with h | ⟨j, h1, h2, _⟩
  · exact h
  · have e : (ckW L W ns).region = 1 - W.region := rfl
    rw [e] at h2
    rcases rg with r | r
    · rw [r] at h2
      omega
    · rw [r] at h2
      omega
theorem Snd.check {L : Lay} {W : LgM} {D : List (Option BD)} {ns : List Int} (hC : LayC L) (f : Fit L W D) (s : Snd L W D) (hl : IsLive W ns) : Snd L (ckW L W ns) (ckDW L (ckW L W ns) D) := by
  have r0 := hC.r0
  have cs : ∀ {a : Int}, 0 ≤ a → readD (ckDW L (ckW L W ns) D) a = readD D a ∨ ∃ b, b.seq = W.last + 1 ∧ readD (ckDW L (ckW L W ns) D) a = some b := fun {a} ha => by
    unfold ckDW
    rcases ckD_cases (st := (ckW L W ns).region * L.reg) (seq := (ckW L W ns).last) (ns := ckN L (ckW L W ns)) (c := L.fan.toNat) (D := D) (b := a) ha L.reg.toNat with h | ⟨j, _, _, h⟩
    · exact .inl h
    · exact .inr ⟨_, rfl, h⟩
  refine ⟨s.pl1, fun a ha => ?_, fun a ha => ?_, fun a b hb => ?_, ?_⟩
  · have ha : LiveA W a := ha
    obtain ⟨h1, h2, h3⟩ := s.liv a ha
    refine ⟨h1, fun hm => ?_, h3⟩
    rcases List.mem_append.mp hm with hm | hm
    · exact h2 hm
    · have := (freeL_mem hm).2.2
      unfold keptL at this
      simp only [List.mem_append, not_or] at this
      exact this.1.1 (List.mem_map.mpr ⟨a, (hl.2 a).mpr ha, rfl⟩)
  · have ha : LiveA W a := ha
    have va := (f.va a ha.1).resolve_left ha.2
    rw [ck_high hC f.rg va.1]
    exact s.pay a ha
  · show b.seq ≤ W.last + 1
    by_cases c : 0 ≤ a
    · rcases cs c with h | ⟨b', h1, h2⟩
      · rw [h] at hb
        have := s.seq a b hb
        omega
      · rw [h2] at hb
        cases hb
        omega
    · rw [readD_neg (by omega)] at hb
      cases hb
  · obtain ⟨a, b, h⟩ := s.ne
    by_cases c : 0 ≤ a
    · rcases cs c with e | ⟨b', _, e⟩
      · exact ⟨a, b, e.trans h⟩
      · exact ⟨a, _, e⟩
    · rw [readD_neg (by omega)] at h
      cases h
theorem Snd.room {L : Lay} {W W1 : LgM} {D : List (Option BD)} {n : Nat} (hC : LayC L) (s : Snd L W D) (e : roomW L W n = some W1) : Snd L W1 D := by
  unfold roomW at e
  split at e
  · cases hq : W.queue with
    | nil => rw [hq] at e; cases e
    | cons h t =>
      rw [hq] at e
      dsimp only at e
      split at e
      · cases e
      · cases e
        exact s.enter hC hq
  · cases e
    exact s
theorem room_live {L : Lay} {W W1 : LgM} {n : Nat} (e : roomW L W n = some W1) {a : Int} : LiveA W a ↔ LiveA W1 a := by
  unfold roomW at e
  split at e
  · cases hq : W.queue with
    | nil => rw [hq] at e; cases e
    | cons h t =>
      rw [hq] at e
      dsimp only at e
      split at e
      · cases e
      · cases e
        exact Iff.rfl
  · cases e
    exact Iff.rfl
theorem pays_kind {D : List (Option BD)} {ids : List Int} {pls : List (Int × Body)} (h : ids.map (fun a => payD (readD D a)) = pls.map some) : ∀ p ∈ pls, p.1 = 3 ∨ p.1 = 4 := fun p hp => by
  have : some p ∈ ids.map fun a => payD (readD D a) := by rw [h]; exact List.mem_map.mpr ⟨p, hp, rfl⟩
  obtain ⟨a, _, e⟩ := List.mem_map.mp this
  unfold payD at e
  cases hr : readD D a with
  | none => rw [hr] at e; cases e
  | some b =>
    rw [hr] at e
    dsimp only at e
    split at e
    · rename_i c
      cases e
      exact c
    · cases e
theorem pays_len {D : List (Option BD)} {ids : List Int} {pls : List (Int × Body)} (h : ids.map (fun a => payD (readD D a)) = pls.map some) : pls.length = ids.length := by
  have := congrArg List.length h
  rw [List.length_map, List.length_map] at this
  exact this.symm
theorem Snd.deed {L : Lay} {W W' : LgM} {D D' : List (Option BD)} (hC : LayC L) (f : Fit L W D) (s : Snd L W D) (h : Deed L W D W' D') : Snd L W' D' := by
  have pay := hC.pay
  cases h with
  | com W1 ids used a pls m c hr li hib nd hus lp hk a0 a6 =>
    obtain ⟨f1, p1, e1, _⟩ := f.room hC li hr
    exact ((s.room hC hr).take hC f1 (d := ⟨1, W.last + 1, 0, .com ids used a⟩) p1 lp hk (by rw [e1])).re rfl rfl rfl rfl rfl rfl
  | mov h t ids pls m c hq li hpl =>
    exact ((s.enter hC hq).take hC (f.enter hq) (d := ⟨2, W.last + 1, 0, .ints ids⟩) (by show 0 + 1 + (ids.length : Int) ≤ L.blk; omega) (pays_len hpl) (pays_kind hpl) rfl).re rfl rfl rfl rfl rfl rfl
  | chk ns m c hl => exact (s.check hC f hl).re rfl rfl rfl rfl rfl rfl
  | non m c => exact s.re rfl rfl rfl rfl rfl rfl
theorem Snd.deeds {L : Lay} {W W' : LgM} {D D' : List (Option BD)} (hC : LayC L) (f : Fit L W D) (s : Snd L W D) (h : Deeds L W D W' D') : Snd L W' D' := by
  obtain ⟨W1, D1, h1, h2⟩ := h.two
  exact (s.deed hC f h1).deed hC (f.deed hC h1) h2
theorem Deed.stay {L : Lay} {W W' : LgM} {D D' : List (Option BD)} (hC : LayC L) (f : Fit L W D) (s : Snd L W D) (h : Deed L W D W' D') {a : Int} (ha : LiveA W a) : readD D' a = readD D a := by
  have pay := hC.pay
  cases h with
  | com W1 ids used ac pls m c hr li hib nd hus lp hk a0 a6 =>
    obtain ⟨f1, p1, _⟩ := f.room hC li hr
    exact (s.room hC hr).stay hC f1 (d := ⟨1, W.last + 1, 0, .com ids used ac⟩) p1 lp ((room_live hr).mp ha)
  | mov h t ids pls m c hq li hpl =>
    exact (s.enter hC hq).stay hC (f.enter hq) (d := ⟨2, W.last + 1, 0, .ints ids⟩) (by show 0 + 1 + (ids.length : Int) ≤ L.blk; omega) (pays_len hpl) ha
  | chk ns m c hl =>
    exact ck_high hC f.rg ((f.va a ha.1).resolve_left ha.2).1
  | non m c => rfl
theorem Deeds.stay {L : Lay} {W W' : LgM} {D D' : List (Option BD)} (hC : LayC L) (f : Fit L W D) (s : Snd L W D) (h : Deeds L W D W' D') {a : Int} (ha : LiveA W a) : readD D' a = readD D a := by
  rcases h with h | ⟨h, t, ids, pls, m, c, ns, m2, c2, hq, li, hpl, hl, rfl, rfl⟩
  · exact h.stay hC f s ha
  · have d1 : Deed L W D _ _ := .mov h t ids pls m c hq li hpl
    have va := (f.va a ha.1).resolve_left ha.2
    rw [ck_high hC (f.deed hC d1).rg va.1]
    exact d1.stay hC f s ha
theorem Deed.new {L : Lay} {W W' : LgM} {D D' : List (Option BD)} (h : Deed L W D W' D') {a : Int} (ha : 0 ≤ a) : W.last ≤ W'.last ∧ (readD D' a = readD D a ∨ ∃ b, readD D' a = some b ∧ W.last < b.seq) := by
  cases h with
  | com W1 ids used ac pls m c hr li hib nd hus lp hk a0 a6 =>
    refine ⟨by show W.last ≤ W.last + 1; omega, ?_⟩
    rcases writeD_cases (L := L) (W := W1) (d := ⟨1, W.last + 1, 0, .com ids used ac⟩) (pls := pls) (D := D) ha with h | ⟨_, h⟩ | ⟨j, _, _, h⟩
    · exact .inl h
    · exact .inr ⟨_, h, by show W.last < W.last + 1; omega⟩
    · exact .inr ⟨_, h, by show W.last < W.last + 1; omega⟩
  | mov h t ids pls m c hq li hpl =>
    refine ⟨by show W.last ≤ W.last + 1; omega, ?_⟩
    rcases writeD_cases (L := L) (W := enterW W h t) (d := ⟨2, W.last + 1, 0, .ints ids⟩) (pls := pls) (D := D) ha with h | ⟨_, h⟩ | ⟨j, _, _, h⟩
    · exact .inl h
    · exact .inr ⟨_, h, by show W.last < W.last + 1; omega⟩
    · exact .inr ⟨_, h, by show W.last < W.last + 1; omega⟩
  | chk ns m c hl =>
    refine ⟨by show W.last ≤ W.last + 1; omega, ?_⟩
    unfold ckDW
    rcases ckD_cases (st := (ckW L W ns).region * L.reg) (seq := (ckW L W ns).last) (ns := ckN L (ckW L W ns)) (c := L.fan.toNat) (D := D) (b := a) ha L.reg.toNat with h | ⟨j, _, _, h⟩
    · exact .inl h
    · exact .inr ⟨_, h, by show W.last < W.last + 1; omega⟩
  | non m c => exact ⟨Int.le_refl _, .inl rfl⟩
theorem Deeds.new {L : Lay} {W W' : LgM} {D D' : List (Option BD)} (h : Deeds L W D W' D') {a : Int} (ha : 0 ≤ a) : readD D' a = readD D a ∨ ∃ b, readD D' a = some b ∧ W.last < b.seq := by
  obtain ⟨W1, D1, h1, h2⟩ := h.two
  obtain ⟨l1, c1⟩ := h1.new ha
  obtain ⟨l2, c2⟩ := h2.new ha
  rcases c2 with e | ⟨b, e, l⟩
  · rw [e]
    exact c1
  · exact .inr ⟨b, e, by omega⟩
theorem Snd.init {m : DevM} {L : Lay} (hC : LayC L) : Snd L (bornW m L) (ckDW L (bornW m L) (List.replicate L.dev.toNat none)) := by
  have f := initFit (m := m) hC
  have r0 := hC.r0
  have b0 := hC.b0
  have noL : ∀ a, ¬ LiveA (initW m L) a := fun a h => by
    rcases h with ⟨h | ⟨tb, h, _⟩, nz⟩
    · exact nz (List.eq_of_mem_replicate h)
    · have h : some tb ∈ [none, none, none] := h
      simp at h
  have none0 : ∀ a : Int, readD (List.replicate L.dev.toNat (none : Option BD)) a = none := fun a => by
    unfold readD
    split
    · rw [List.getD_eq_getElem?_getD, List.getElem?_replicate]
      split <;> rfl
    · rfl
  have cs : ∀ {a : Int}, 0 ≤ a → readD (ckDW L (bornW m L) (List.replicate L.dev.toNat none)) a = none ∨ ∃ b, b.seq = 1 ∧ readD (ckDW L (bornW m L) (List.replicate L.dev.toNat none)) a = some b := fun {a} ha => by
    unfold ckDW
    rcases ckD_cases (st := (bornW m L).region * L.reg) (seq := (bornW m L).last) (ns := ckN L (bornW m L)) (c := L.fan.toNat) (D := List.replicate L.dev.toNat none) (b := a) ha L.reg.toNat with h | ⟨j, _, _, h⟩
    · exact .inl (h.trans (none0 a))
    · exact .inr ⟨_, rfl, h⟩
  refine ⟨by show (0 : Int) ≤ L.blk; omega, fun a h => absurd h (noL a), fun a h => absurd h (noL a), fun a b hb => ?_, ?_⟩
  · show b.seq ≤ 1
    by_cases c : 0 ≤ a
    · rcases cs c with h | ⟨b', h1, h2⟩
      · rw [h] at hb; cases hb
      · rw [h2] at hb
        cases hb
        omega
    · rw [readD_neg (by omega)] at hb
      cases hb
  · refine ⟨0, partB 1 (ckN L (bornW m L)) L.fan.toNat 0, ?_⟩
    unfold ckDW
    have hit : ∀ n : Nat, 0 < n → readD (ckD ((bornW m L).region * L.reg) (bornW m L).last (ckN L (bornW m L)) L.fan.toNat (List.replicate L.dev.toNat none) n) 0 = some (partB 1 (ckN L (bornW m L)) L.fan.toNat 0) := by
      intro n
      induction n with
      | zero => exact fun h => absurd h (Nat.lt_irrefl 0)
      | succ n ih =>
        intro _
        have e0 : (bornW m L).region * L.reg = 0 := by show (1 - 1 : Int) * L.reg = 0; omega
        rw [ckD]
        by_cases c : n = 0
        · subst c
          rw [e0]
          exact readD_eq (Int.le_refl 0) (by rw [ckD_len, List.length_replicate]; have := hC.d0; omega)
        · rw [readD_ne (by rw [e0]; omega) (Int.le_refl 0)]
          exact ih (by omega)
    exact hit _ (by omega)

/-! ### how far the numbers of a log go -/
theorem Deed.last {L : Lay} {W W' : LgM} {D D' : List (Option BD)} (h : Deed L W D W' D') : W'.last ≤ W.last + 1 := by
  cases h with
  | com W1 ids used ac pls m c hr li hib nd hus lp hk a0 a6 => exact Int.le_refl _
  | mov h t ids pls m c hq li hpl => exact Int.le_refl _
  | chk ns m c hl => exact Int.le_refl _
  | non m c => show W.last ≤ W.last + 1; omega
theorem Deeds.last {L : Lay} {W W' : LgM} {D D' : List (Option BD)} (h : Deeds L W D W' D') : W'.last ≤ W.last + 2 := by
  obtain ⟨W1, D1, h1, h2⟩ := h.two
  have := h1.last
  have := h2.last
  omega
theorem Deeds.lastge {L : Lay} {W W' : LgM} {D D' : List (Option BD)} (h : Deeds L W D W' D') : W.last ≤ W'.last := by
  obtain ⟨W1, D1, h1, h2⟩ := h.two
  have := (h1.new (a := 0) (Int.le_refl 0)).1
  have := (h2.new (a := 0) (Int.le_refl 0)).1
  omega
theorem newF_in {L : Lay} {W : LgM} {D : List (Option BD)} (sd : Snd L W D) (h0 : 0 ≤ W.last) {s : Int} : ∀ p, 0 ≤ newF L D s p ∧ newF L D s p ≤ W.last
  | 0 => ⟨Int.le_refl _, h0⟩
  | p + 1 => by
    have ih := newF_in sd h0 (s := s) p
    have e : newF L D s (p + 1) = match readD D (2 * L.reg + s * L.blk + (p : Nat)) with
      | none => newF L D s p
      | some b => max (newF L D s p) b.seq := rfl
    rw [e]
    cases hr : readD D (2 * L.reg + s * L.blk + (p : Nat)) with
    | none => exact ih
    | some b =>
      have := sd.seq _ _ hr
      show 0 ≤ max (newF L D s p) b.seq ∧ max (newF L D s p) b.seq ≤ W.last
      omega

local macro_rules | `(tactic| walk_at "rx1") => `(tactic| with_reducible (first | refine' Sg.r_prop ?_ | (refine' Sg.r_kprop ?h ?_; (case h => (with_unfolding_all walk_at "hp"))) | refine' Sg.r_irev ?_ | (refine' Sg.r_kIv ?h ?_; (case h => (with_unfolding_all walk_at "hp"))) | refine' Sg.r_makeN ?_ | refine' Sg.r_callN ?_ | refine' Sg.r_makeSD ?_ | refine' Sg.r_callSD ?_ | refine' Sg.r_methSD ?_ | (refine' Sg.r_kmethSD ?h ?hl ?_; (case h => (with_unfolding_all walk_at "hp")); (case hl => (with_unfolding_all walk_at "lk"))) | refine' Sg.r_tryA ?_ | refine' Sg.r_din ?_ | refine' Sg.r_kdi ?_ | (refine' Sg.r_kdi2 ?h ?_; (case h => (with_unfolding_all walk_at "hp"))) | (refine' Sg.r_kdi2f ?h ?_; (case h => assumption)) | refine' Sg.r_dnotin ?_ | refine' Sg.r_kdn ?_ | (refine' Sg.r_kdn2 ?h ?_; (case h => (with_unfolding_all walk_at "hp"))) | refine' Sg.r_dget ?_ | refine' Sg.r_kdg ?_ | refine' Sg.r_dget1 ?_ | (refine' Sg.r_kdt ?h ?_; (case h => (with_unfolding_all walk_at "hp"))) | (refine' Sg.r_kdt2 ?h ?_; (case h => (with_unfolding_all walk_at "hp"))) | refine' Sg.r_dput ?_ | refine' Sg.r_kdp ?_ | refine' Sg.r_kdp2 ?_ | (refine' Sg.r_kdp3 ?h ?hl ?_; (case h => (with_unfolding_all walk_at "hp")); (case hl => (with_unfolding_all walk_at "side")); (with_unfolding_all walk_at "up")) | refine' Sg.r_ddel ?_ | refine' Sg.r_kdd ?_ | refine' Sg.r_dpop1 ?_ | (refine' Sg.r_kdo ?h ?_; (case h => (with_unfolding_all walk_at "hp"))) | refine' Sg.r_ikeys ?_ | (refine' Sg.r_kIk ?h ?_; (case h => assumption)) | (refine' Sg.r_dnew ?_; (with_unfolding_all walk_at "al")) | (refine' Sg.r_lenD ?h ?_; (case h => (with_unfolding_all walk_at "hp"))) | (refine' Sg.r_dictD ?h ?_; (case h => (with_unfolding_all walk_at "hp")); (with_unfolding_all walk_at "al"))))
local macro_rules | `(tactic| walk_at "rx") => `(tactic| repeat (first | walk_at "rd1" | walk_at "rx1"))
/-! ### enumerate over zip: a zip whose tuple is kept (its own rule), in a for -/
section
open PySem PySem.Spec PyProof.Rows
namespace EZ
open PySem.Sem (wp)
/-! ### enumerate(zip(list, list)) -/
/-- the tuple that a zip gave last is let go, or not -/
def F0 (f0 : Value) : Prop := f0 = .none ∨ ∃ T : Nat, f0 = rawInt T
abbrev zipO (TI TO : Addr) (f0 f1 : Value) : Obj := { cls := .type "zip", dict := none, data := .fields #[f0, f1, .bool false, .ref TI, .ref TO], slots := #[] }
def ZipA (h : Heap) (z TI TO : Addr) : Prop := ∃ f0 f1, F0 f0 ∧ h.get? z = some (zipO TI TO f0 f1)
section
variable {prog : Program} {w : World} {A : Around} {E : Value → Shared → Prop} {s : Shared}
theorem alive {M : Model} {a : Addr} {Q : Option Obj → Shared → Prop} (h : Q (s.heap.get? a) s) : wpAny M A (loadIfAlive a) Q E s := fun Γ p _ => by
  unfold loadIfAlive
  rw [Sem.wp_loadIfAlive]
  exact h
theorem owned {z TI TO : Addr} {Q : Bool → Shared → Prop} (hz : ZipA s.heap z TI TO)
    (h1 : ∀ f0 f1, s.heap.get? z = some (zipO TI TO f0 f1) → Q true s)
    (h2 : ∀ h', ZipA h' z TI TO → Heap.SameBut z s.heap h' → Q false { s with heap := h' }) : wpAny (model prog w) A (Builtin.SmallTypes.ownedTupleIsFree (.ref z)) Q E s := by
  obtain ⟨f0, f1, c, e⟩ := hz
  unfold Builtin.SmallTypes.ownedTupleIsFree
  rcases c with rfl | ⟨T, rfl⟩
  · exact wpAny_bind (wpAny_field e rfl (x := .none) rfl (wpAny_pure (h1 _ _ e)))
  · refine wpAny_bind (wpAny_field e rfl (x := rawInt T) rfl ?_)
    show wpAny _ _ (loadIfAlive _ >>= _) _ _ _
    refine wpAny_bind (alive ?_)
    cases hT : s.heap.get? ((T : Int).toNat) with
    | none => exact wpAny_pure (h1 _ _ e)
    | some o =>
      show wpAny _ _ (field (.ref z) 1 >>= _) _ _ _
      refine wpAny_bind (wpAny_field e rfl (x := f1) rfl ?_)
      by_cases c : (f1 != .bool true) = true
      · rw [if_pos c]
        refine wpAny_bind (wpAny_setField_rec e (by simp) fun h' e' s' => wpAny_pure ?_)
        exact h2 h' ⟨_, _, .inr ⟨T, rfl⟩, e'⟩ s'
      · rw [if_neg c]
        exact wpAny_bind (wpAny_pure (wpAny_pure (h2 s.heap ⟨_, _, .inr ⟨T, rfl⟩, e⟩ ⟨rfl, fun _ _ => rfl⟩)))

variable {z TI TO i1 i2 : Addr} {fp1 fp2 : List Addr} {n i : Nat} {P1 P2 : Nat → Value → Prop} {St1 St2 : Nat → Heap → Prop}
/-- what a zip is that is asked for item i -/
def ZS (z TI TO i1 i2 : Addr) (St1 St2 : Nat → Heap → Prop) (i : Nat) (h : Heap) : Prop :=
  ZipA h z TI TO ∧ IsTupOf2 h TI (.ref i1) (.ref i2) ∧ (∃ a b, IsTupOf2 h TO a b) ∧ St1 i h ∧ St2 i h
theorem item (S : ZipSep2 z TI TO i1 i2 fp1 fp2) (D1 : Draws prog w A i1 fp1 n P1 St1) (D2 : Draws prog w A i2 fp2 n P2 St2) {Q : Value → Shared → Prop}
    (st : ZS z TI TO i1 i2 St1 St2 i s.heap) (hlt : i < n)
    (hQ : ∀ x1 x2 h' tk, P1 i x1 → P2 i x2 → ZS z TI TO i1 i2 St1 St2 (i + 1) h' → IsTupOf2 h' s.heap.objs.size x1 x2 → h'.objs.size = s.heap.objs.size + 1 →
      (∀ c o, c ≠ z → c ≠ TO → c ≠ i1 → c ≠ i2 → s.heap.get? c = some o → h'.get? c = some o) → Q (.ref s.heap.objs.size) { s with heap := h', toks := tk }) :
    wpAny (model prog w) A (Builtin.«zip.__next__» ⟨[.ref z], []⟩) (fun fin s' => ∃ v, fin = .done (.ret v) ∧ Q v s') E s := by
  obtain ⟨hz, hTI, ⟨a1, a2, hTO⟩, st1, st2⟩ := st
  obtain ⟨hp, g, d, tk0, os⟩ := s
  obtain ⟨f0, f1, c0, hz0⟩ := id hz
  show wpAny _ _ (field (.ref z) 2 >>= _) _ _ _
  refine wpAny_bind (wpAny_field hz0 rfl (x := .bool false) rfl ?_)
  show wpAny _ _ (field (.ref z) 3 >>= _) _ _ _
  refine wpAny_bind (wpAny_field hz0 rfl (x := .ref TI) rfl ?_)
  refine wpAny_bind (wpAny_seqItems hTI rfl ?_)
  clear hz0 c0 f0 f1
  show wpAny _ _ (Builtin.SmallTypes.ownedTupleIsFree (.ref z) >>= _) _ _ _
  refine wpAny_bind (owned hz (fun f0 f1 hz => ?_) fun h0 hz0 hs0 => ?_)
  · simp only [if_true]
    refine wpAny_bind (wpAny_rule ?_)
    refine wpAny_bind (wpAny_field hz rfl (x := .ref TO) rfl ?_)
    refine wpAny_bind (wpAny_setField_rec hz (by simp) fun g0 hz0 hs0 => ?_)
    replace hz0 : g0.get? z = some (zipO TI TO .ellipsis f1) := hz0
    replace hs0 : Heap.SameBut z hp g0 := hs0
    refine wpAny_bind ?_
    simp only [List.zipIdx_cons, List.zipIdx_nil, List.forIn_cons, List.forIn_nil]
    refine wpAny_bind (wpAny_bind (wpAny_onRaise ?_))
    show wpAny _ _ (Builtin.SmallTypes.nextOf (.ref i1) >>= _) _ _ ⟨g0, g, d, tk0, os⟩
    refine wpAny_bind (D1.item i _ _ _ hlt (D1.over st1 hs0 S.zf1) fun x1 p1 tk1 hx1 sn1 hp1 => wpAny_pure ?_)
    replace hp1 : Heap.SameBut i1 g0 p1 := hp1
    have hU1 : IsTupOf2 p1 TO a1 a2 := hp1.extBut _ _ S.Ti1 (hs0.extBut _ _ S.TOz hTO)
    refine wpAny_bind (wpAny_seqItems (s := ⟨p1, g, d, tk1, os⟩) hU1 rfl ?_)
    refine wpAny_bind (updateSeq_IsTupOf2 (s := ⟨p1, g, d, tk1, os⟩) hU1 fun g1 hT1 hs1 => ?_)
    replace hT1 : IsTupOf2 g1 TO x1 a2 := hT1
    replace hs1 : Heap.SameBut TO p1 g1 := hs1
    refine wpAny_bind (wpAny_letGo (wpAny_pure ?_))
    refine wpAny_bind (wpAny_bind (wpAny_onRaise ?_))
    show wpAny _ _ (Builtin.SmallTypes.nextOf (.ref i2) >>= _) _ _ ⟨g1, g, d, tk1, os⟩
    refine wpAny_bind (D2.item i _ _ _ hlt (D2.over (D2.over (D2.over st2 hs0 S.zf2) hp1 S.sep1_2) hs1 S.Tf2) fun x2 p2 tk2 hx2 sn2 hp2 => wpAny_pure ?_)
    replace hp2 : Heap.SameBut i2 g1 p2 := hp2
    have hU2 : IsTupOf2 p2 TO x1 a2 := hp2.extBut _ _ S.Ti2 hT1
    refine wpAny_bind (wpAny_seqItems (s := ⟨p2, g, d, tk2, os⟩) hU2 rfl ?_)
    refine wpAny_bind (updateSeq_IsTupOf2 (s := ⟨p2, g, d, tk2, os⟩) hU2 fun g2 hT2 hs2 => ?_)
    replace hT2 : IsTupOf2 g2 TO x1 x2 := hT2
    replace hs2 : Heap.SameBut TO p2 g2 := hs2
    refine wpAny_bind (wpAny_letGo (wpAny_pure (wpAny_pure ?_)))
    refine wpAny_bind (wpAny_seqItems (s := ⟨g2, g, d, tk2, os⟩) hT2 rfl ?_)
    refine wpAny_bind (wpAny_newTuple ?_)
    have hsz : g2.objs.size = hp.objs.size := by rw [hs2.1, hp2.1, hs1.1, hp1.1, hs0.1]
    have hzz : g2.get? z = some (zipO TI TO .ellipsis f1) := (hs2.extBut _ _ S.TOz.symm (hp2.extBut _ _ S.zi2 (hs1.extBut _ _ S.TOz.symm (hp1.extBut _ _ S.zi1 hz0))))
    have hkk : ∀ c o, c ≠ z → c ≠ TO → c ≠ i1 → c ≠ i2 → hp.get? c = some o → g2.get? c = some o := fun c o cz cT c1 c2 e =>
      (hs2.extBut _ _ cT (hp2.extBut _ _ c2 (hs1.extBut _ _ cT (hp1.extBut _ _ c1 (hs0.extBut _ _ cz e)))))
    have hj1 : St1 (i + 1) g2 := (D1.over (D1.over (D1.over sn1 hs1 S.Tf1) hp2 S.sep2_1) hs2 S.Tf1)
    have hj2 : St2 (i + 1) g2 := (D2.over sn2 hs2 S.Tf2)
    have hzlt : z < g2.objs.size := Heap.lt_size hzz
    show wpAny _ _ (Builtin.SmallTypes.ownedTupleHandOut (.ref z) (.ref g2.objs.size) >>= _) _ _ ⟨g2.push { cls := .type "tuple", data := .seq #[x1, x2] }, g, d, tk2, os⟩
    refine wpAny_bind ?_
    unfold Builtin.SmallTypes.ownedTupleHandOut
    have hz₆ : (g2.push { cls := .type "tuple", data := .seq #[x1, x2] }).get? z = some (zipO TI TO .ellipsis f1) := Heap.get?_push_of_some _ hzz
    refine wpAny_bind (wpAny_setField_rec hz₆ (by simp) fun h₇ hz₇ hs₇ => ?_)
    replace hz₇ : h₇.get? z = some (zipO TI TO (rawInt g2.objs.size) f1) := hz₇
    refine wpAny_setField_rec hz₇ (by simp) fun h₈ hz₈ hs₈ => ?_
    replace hz₈ : h₈.get? z = some (zipO TI TO (rawInt g2.objs.size) (.bool false)) := hz₈
    replace hs₇ : Heap.SameBut z (g2.push { cls := .type "tuple", data := .seq #[x1, x2] }) h₇ := hs₇
    replace hs₈ : Heap.SameBut z h₇ h₈ := hs₈
    have up : ∀ c o, c ≠ z → g2.get? c = some o → h₈.get? c = some o := fun c o c1 e => hs₈.extBut _ _ c1 (hs₇.extBut _ _ c1 (Heap.get?_push_of_some _ e))
    have hT₈ : IsTupOf2 h₈ g2.objs.size x1 x2 := hs₈.extBut _ _ (Nat.ne_of_gt hzlt) (hs₇.extBut _ _ (Nat.ne_of_gt hzlt) (Heap.get?_push_size _ rfl))
    have hz8 : h₈.objs.size = g2.objs.size + 1 := by rw [hs₈.1, hs₇.1, Heap.size_push]
    rw [hsz] at hz₈ hT₈ hz8
    refine wpAny_pure ⟨_, rfl, ?_⟩
    show Q (.ref g2.objs.size) ⟨h₈, g, d, tk2, os⟩
    rw [hsz]
    exact hQ x1 x2 h₈ tk2 hx1 hx2 ⟨⟨_, _, .inr ⟨_, rfl⟩, hz₈⟩, up _ _ S.TIz (hkk _ _ S.TIz S.TITO S.TIi1 S.TIi2 hTI), ⟨_, _, up _ _ S.TOz hT2⟩, D1.frame _ _ _ hj1 fun b hb o e => up b o (fun q => S.zf1 (q ▸ hb)) e, D2.frame _ _ _ hj2 fun b hb o e => up b o (fun q => S.zf2 (q ▸ hb)) e⟩ hT₈ hz8 fun c o cz cT c1 c2 e => up c o cz (hkk c o cz cT c1 c2 e)
  · replace hs0 : Heap.SameBut z hp h0 := hs0
    simp only [Bool.false_eq_true, if_false]
    refine wpAny_bind ?_
    simp only [← Array.forIn_toList, List.forIn_cons, List.forIn_nil]
    refine wpAny_bind (wpAny_bind (wpAny_holding ?_))
    show wpAny _ _ (Builtin.SmallTypes.nextOf (.ref i1) >>= _) _ _ ⟨h0, g, d, tk0, os⟩
    refine wpAny_bind (D1.item i _ _ _ hlt (D1.over st1 hs0 S.zf1) fun x1 p1 tk1 hx1 sn1 hp1 => wpAny_pure ?_)
    replace hp1 : Heap.SameBut i1 h0 p1 := hp1
    refine wpAny_pure ?_
    refine wpAny_bind (wpAny_bind (wpAny_holding ?_))
    show wpAny _ _ (Builtin.SmallTypes.nextOf (.ref i2) >>= _) _ _ ⟨p1, g, d, tk1, os⟩
    refine wpAny_bind (D2.item i _ _ _ hlt (D2.over (D2.over st2 hs0 S.zf2) hp1 S.sep1_2) fun x2 p2 tk2 hx2 sn2 hp2 => wpAny_pure ?_)
    replace hp2 : Heap.SameBut i2 p1 p2 := hp2
    refine wpAny_pure (wpAny_pure ?_)
    refine wpAny_bind (wpAny_newTuple (s := ⟨p2, g, d, tk2, os⟩) (items := [x1, x2]) ?_)
    refine wpAny_pure ⟨_, rfl, ?_⟩
    have hsz : p2.objs.size = hp.objs.size := by rw [hp2.1, hp1.1, hs0.1]
    have hkk : ∀ c o, c ≠ z → c ≠ i1 → c ≠ i2 → hp.get? c = some o → p2.get? c = some o := fun c o cz c1 c2 e => hp2.extBut _ _ c2 (hp1.extBut _ _ c1 (hs0.extBut _ _ cz e))
    have hj1 : St1 (i + 1) p2 := D1.over sn1 hp2 S.sep2_1
    show Q (.ref p2.objs.size) ⟨p2.push { cls := .type "tuple", data := .seq #[x1, x2] }, g, d, tk2, os⟩
    rw [hsz]
    have pu : ∀ b o, p2.get? b = some o → (p2.push { cls := .type "tuple", data := .seq #[x1, x2] }).get? b = some o := fun b o e => Heap.get?_push_of_some _ e
    obtain ⟨f0, f1, c0, hz1⟩ := hz0
    refine hQ x1 x2 _ tk2 hx1 hx2 ⟨⟨f0, f1, c0, pu _ _ (hp2.extBut _ _ S.zi2 (hp1.extBut _ _ S.zi1 hz1))⟩, pu _ _ (hkk _ _ S.TIz S.TIi1 S.TIi2 hTI), ⟨_, _, pu _ _ (hkk _ _ S.TOz S.Ti1 S.Ti2 hTO)⟩, D1.frame _ _ _ hj1 fun b _ o e => pu b o e, D2.frame _ _ _ sn2 fun b _ o e => pu b o e⟩ ?_ (by rw [Heap.size_push, hsz]) fun c o cz _ c1 c2 e => pu _ _ (hkk c o cz c1 c2 e)
    have := Heap.get?_push_size p2 (o := { cls := .type "tuple", data := .seq #[x1, x2] }) rfl
    rw [hsz] at this
    exact this

theorem done (S : ZipSep2 z TI TO i1 i2 fp1 fp2) (D1 : Draws prog w A i1 fp1 n P1 St1) {Q : Fin → Shared → Prop}
    (st : ZS z TI TO i1 i2 St1 St2 n s.heap)
    (hE : ∀ h' tk e, (∀ c o, c ≠ z → c ≠ TO → c ≠ i1 → c ≠ i2 → s.heap.get? c = some o → h'.get? c = some o) → (∃ o, h'.get? e = some o ∧ o.cls = .type "StopIteration") → E (.ref e) { s with heap := h', toks := tk }) :
    wpAny (model prog w) A (Builtin.«zip.__next__» ⟨[.ref z], []⟩) Q E s := by
  obtain ⟨hz, hTI, ⟨a1, a2, hTO⟩, st1, st2⟩ := st
  obtain ⟨hp, g, d, tk0, os⟩ := s
  obtain ⟨f0, f1, c0, hz0⟩ := id hz
  show wpAny _ _ (field (.ref z) 2 >>= _) _ _ _
  refine wpAny_bind (wpAny_field hz0 rfl (x := .bool false) rfl ?_)
  show wpAny _ _ (field (.ref z) 3 >>= _) _ _ _
  refine wpAny_bind (wpAny_field hz0 rfl (x := .ref TI) rfl ?_)
  refine wpAny_bind (wpAny_seqItems hTI rfl ?_)
  clear hz0 c0 f0 f1
  show wpAny _ _ (Builtin.SmallTypes.ownedTupleIsFree (.ref z) >>= _) _ _ _
  refine wpAny_bind (owned hz (fun f0 f1 hz => ?_) fun h0 hz0 hs0 => ?_)
  · simp only [if_true]
    refine wpAny_bind (wpAny_rule ?_)
    refine wpAny_bind (wpAny_field hz rfl (x := .ref TO) rfl ?_)
    refine wpAny_bind (wpAny_setField_rec hz (by simp) fun g0 hz0 hs0 => ?_)
    replace hz0 : g0.get? z = some (zipO TI TO .ellipsis f1) := hz0
    replace hs0 : Heap.SameBut z hp g0 := hs0
    refine wpAny_bind ?_
    simp only [List.zipIdx_cons, List.zipIdx_nil, List.forIn_cons, List.forIn_nil]
    refine wpAny_bind (wpAny_bind (wpAny_onRaise ?_))
    show wpAny _ _ (Builtin.SmallTypes.nextOf (.ref i1) >>= _) _ _ ⟨g0, g, d, tk0, os⟩
    refine wpAny_bind (D1.done ⟨g0, g, d, tk0, os⟩ _ _ (D1.over st1 hs0 S.zf1) fun q e hq he => ?_)
    replace hq : Heap.ExtBut i1 g0 q := hq
    obtain ⟨oe, hoe, hce⟩ := he
    replace hoe : q.get? e = some oe := hoe
    have hzq : q.get? z = some (zipO TI TO .ellipsis f1) := hq _ _ S.zi1 hz0
    have hez : e ≠ z := fun x => by subst x; rw [hzq] at hoe; cases hoe; simp at hce
    refine wpAny_setField_rec (s := ⟨q, g, d, tk0, os⟩) hzq (by simp) fun q' _ hq' => ?_
    replace hq' : Heap.SameBut z q q' := hq'
    exact hE q' tk0 e (fun c o cz cT c1 c2 x => hq'.extBut _ _ cz (hq _ _ c1 (hs0.extBut _ _ cz x))) ⟨oe, hq'.extBut _ _ hez hoe, hce⟩
  · replace hs0 : Heap.SameBut z hp h0 := hs0
    simp only [Bool.false_eq_true, if_false]
    refine wpAny_bind ?_
    simp only [← Array.forIn_toList, List.forIn_cons, List.forIn_nil]
    refine wpAny_bind (wpAny_bind (wpAny_holding ?_))
    show wpAny _ _ (Builtin.SmallTypes.nextOf (.ref i1) >>= _) _ _ ⟨h0, g, d, tk0, os⟩
    refine wpAny_bind (D1.done ⟨h0, g, d, tk0, os⟩ _ _ (D1.over st1 hs0 S.zf1) fun q e hq he => ?_)
    exact hE q tk0 e (fun c o cz cT c1 c2 x => hq _ _ c1 (hs0.extBut _ _ cz x)) he
/-- one item of enumerate, the iterator's own item told by what it says -/
theorem enum_item {e it : Addr} {c : Int} {R : Value → Heap → Nat → Prop} {old : Value} {Q : Value → Shared → Prop}
    (hN : ∀ Q' : Value → Shared → Prop, (∀ x h1 tk, R x h1 tk → Q' x { s with heap := h1, toks := tk }) → wpAny (model prog w) A (Builtin.SmallTypes.nextOf (.ref it)) Q' E s)
    (he : IsEnum s.heap e it c old) (hk : ∀ x h1 tk, R x h1 tk → IsEnum h1 e it c old)
    (hQ : ∀ x h1 tk h', R x h1 tk → IsEnumOut h' e it (c + 1) x h1.objs.size →
      h'.get? h1.objs.size = some { cls := .type "tuple", data := .seq #[.int c tk, x] } → h'.objs.size = h1.objs.size + 1 →
      (∀ b o, b ≠ e → h1.get? b = some o → h'.get? b = some o) → Q (.ref h1.objs.size) { s with heap := h', toks := tk + 1 }) :
    wpAny (model prog w) A (Builtin.«enumerate.__next__» ⟨[.ref e], []⟩) (fun fin s' => ∃ v, fin = .done (.ret v) ∧ Q v s') E s := by
  obtain ⟨hp, g, d, tk₀, os⟩ := s
  show wpAny _ _ (field (.ref e) 2 >>= _) _ _ _
  refine wpAny_bind (wpAny_field he rfl (x := .ref it) rfl ?_)
  refine wpAny_bind (hN _ fun x h₁ tk hR => ?_)
  have he₁ : IsEnum h₁ e it c old := hk _ _ _ hR
  show wpAny _ _ (field (.ref e) 3 >>= _) _ _ ⟨h₁, g, d, tk, os⟩
  refine wpAny_bind (wpAny_field he₁ rfl (x := rawInt c) rfl ?_)
  show wpAny _ _ (field (.ref e) 4 >>= _) _ _ ⟨h₁, g, d, tk, os⟩
  refine wpAny_bind (wpAny_field he₁ rfl (x := .none) rfl ?_)
  show wpAny _ _ (mkInt c >>= _) _ _ ⟨h₁, g, d, tk, os⟩
  refine wpAny_bind (wpAny_mkInt ?_)
  show wpAny _ _ (setField (.ref e) 3 (rawInt (c + 1)) >>= _) _ _ ⟨h₁, g, d, tk + 1, os⟩
  refine wpAny_bind (wpAny_setField_rec he₁ (by simp) fun h₂ he₂ hs₂ => ?_)
  replace hs₂ : Heap.SameBut e h₁ h₂ := hs₂
  replace he₂ : IsEnum h₂ e it (c + 1) old := he₂
  show wpAny _ _ (setField (.ref e) 4 .none >>= _) _ _ ⟨h₂, g, d, tk + 1, os⟩
  refine wpAny_bind (wpAny_setField_rec he₂ (by simp) fun h₃ he₃ hs₃ => ?_)
  replace hs₃ : Heap.SameBut e h₂ h₃ := hs₃
  replace he₃ : IsEnum h₃ e it (c + 1) old := he₃
  show wpAny _ _ (newTuple [.int c tk, x] >>= _) _ _ ⟨h₃, g, d, tk + 1, os⟩
  refine wpAny_bind (wpAny_newTuple ?_)
  have he₄ : IsEnum (h₃.push { cls := .type "tuple", data := .seq #[.int c tk, x] }) e it (c + 1) old := Heap.get?_push_of_some _ he₃
  generalize hh₄ : h₃.push { cls := .type "tuple", data := .seq #[.int c tk, x] } = h₄ at he₄
  have hsz : h₃.objs.size = h₁.objs.size := by rw [hs₃.1, hs₂.1]
  have hel : e < h₁.objs.size := Heap.lt_size he₁
  have ht₄ : h₄.get? h₁.objs.size = some { cls := .type "tuple", data := .seq #[.int c tk, x] } := by rw [← hh₄, ← hsz]; exact Heap.get?_push_size _ rfl
  have hz₄ : h₄.objs.size = h₁.objs.size + 1 := by rw [← hh₄, Heap.size_push, hsz]
  have hk₄ : ∀ b o, b ≠ e → h₁.get? b = some o → h₄.get? b = some o := fun b o hbe hb => by
    rw [← hh₄]; exact Heap.get?_push_of_some _ (hs₃.extBut b o hbe (hs₂.extBut b o hbe hb))
  show wpAny _ _ (Builtin.SmallTypes.ownedTupleIsFree (.ref e) >>= _) _ _ ⟨h₄, g, d, tk + 1, os⟩
  rw [hsz]
  clear hh₄ he₃ hs₃ he₂ hs₂ hsz h₃ h₂
  refine wpAny_bind ?_
  unfold Builtin.SmallTypes.ownedTupleIsFree
  refine wpAny_bind (wpAny_field he₄ rfl (x := .none) rfl (wpAny_pure ?_))
  simp only [if_true]
  refine wpAny_bind (wpAny_rule ?_)
  refine wpAny_bind (wpAny_field he₄ rfl (x := old) rfl ?_)
  refine wpAny_bind (wpAny_setField_rec he₄ (by simp) fun h₅ he₅ hs₅ => ?_)
  replace hs₅ : Heap.SameBut e h₄ h₅ := hs₅
  replace he₅ : IsEnum h₅ e it (c + 1) x := he₅
  show wpAny _ _ (Builtin.SmallTypes.ownedTupleHandOut (.ref e) (.ref h₁.objs.size) >>= _) _ _ ⟨h₅, g, d, tk + 1, os⟩
  refine wpAny_bind ?_
  unfold Builtin.SmallTypes.ownedTupleHandOut
  refine wpAny_bind (wpAny_setField_rec he₅ (by simp) fun h₆ he₆ hs₆ => ?_)
  replace hs₆ : Heap.SameBut e h₅ h₆ := hs₆
  replace he₆ : IsEnumOut h₆ e it (c + 1) x h₁.objs.size := he₆
  refine wpAny_setField_rec he₆ (by simp) fun h₇ he₇ hs₇ => ?_
  replace hs₇ : Heap.SameBut e h₆ h₇ := hs₇
  replace he₇ : IsEnumOut h₇ e it (c + 1) x h₁.objs.size := he₇
  refine wpAny_bind (wpAny_letGo (wpAny_pure ⟨_, rfl, hQ x h₁ tk h₇ hR he₇ ?_ ?_ ?_⟩))
  · exact hs₇.extBut _ _ (Nat.ne_of_gt hel) (hs₆.extBut _ _ (Nat.ne_of_gt hel) (hs₅.extBut _ _ (Nat.ne_of_gt hel) ht₄))
  · rw [hs₇.1, hs₆.1, hs₅.1, hz₄]
  · exact fun b o hbe hb => hs₇.extBut b o hbe (hs₆.extBut b o hbe (hs₅.extBut b o hbe (hk₄ b o hbe hb)))
theorem zipIs {h : Heap} {s' : Shared} (hz : ZipA s'.heap z TI TO) : s'.TypeIs (.ref z) "zip" := by
  obtain ⟨_, _, _, e⟩ := hz
  exact ⟨_, e, rfl⟩
theorem next_item (S : ZipSep2 z TI TO i1 i2 fp1 fp2) (D1 : Draws prog w A.in1.in1 i1 fp1 n P1 St1) (D2 : Draws prog w A.in1.in1 i2 fp2 n P2 St2) {e : Addr} {c : Int} {old : Value} {Q : Option Value → Shared → Prop}
    (st : ZS z TI TO i1 i2 St1 St2 i s.heap) (hlt : i < n) (he : IsEnum s.heap e z c old) (ez : e ≠ z) (eT : e ≠ TO) (e1 : e ≠ i1) (e2 : e ≠ i2)
    (hQ : ∀ x1 x2 h1 tk h', P1 i x1 → P2 i x2 → ZS z TI TO i1 i2 St1 St2 (i + 1) h1 → IsTupOf2 h1 s.heap.objs.size x1 x2 → h1.objs.size = s.heap.objs.size + 1 →
      (∀ c o, c ≠ z → c ≠ TO → c ≠ i1 → c ≠ i2 → s.heap.get? c = some o → h1.get? c = some o) →
      IsEnumOut h' e z (c + 1) (.ref s.heap.objs.size) h1.objs.size → h'.get? h1.objs.size = some { cls := .type "tuple", data := .seq #[.int c tk, .ref s.heap.objs.size] } → h'.objs.size = h1.objs.size + 1 →
      (∀ b o, b ≠ e → h1.get? b = some o → h'.get? b = some o) → Q (some (.ref h1.objs.size)) { s with heap := h', toks := tk + 1 }) :
    wpAny (model prog w) A (pyNext (.ref e)) Q E s := by
  have hT : s.TypeIs (.ref e) "enumerate" := ⟨_, he, rfl⟩
  have hZ : s.TypeIs (.ref z) "zip" := zipIs (h := s.heap) st.1
  unfold pyNext
  refine wpAny_bind (wpAny_attempt (wpAny_callSpecial?_slot (name := Str.ofString "__next__") hT F.slot_enumerate_next
    (wpAny_call_entry F.slot_enumerate_next hT F.entry_enumerate_next ?_ (F.args_enumerate_next_1 _))))
  refine enum_item (R := fun x h1 tk => ∃ x1 x2, x = .ref s.heap.objs.size ∧ P1 i x1 ∧ P2 i x2 ∧ ZS z TI TO i1 i2 St1 St2 (i + 1) h1 ∧ IsTupOf2 h1 s.heap.objs.size x1 x2 ∧ h1.objs.size = s.heap.objs.size + 1 ∧
      ∀ c o, c ≠ z → c ≠ TO → c ≠ i1 → c ≠ i2 → s.heap.get? c = some o → h1.get? c = some o) (fun Q' hq => ?_) he (fun x h1 tk hR => ?_) fun x h1 tk h' hR a1 a2 a3 a4 => ?_
  · unfold Builtin.SmallTypes.nextOf
    refine wpAny_bind (wpAny_callSpecial?_slot (name := Str.ofString "__next__") hZ F.slot_zip_next
      (wpAny_call_entry F.slot_zip_next hZ F.entry_zip_next ?_ (F.args_zip_next_1 _)))
    refine item S D1 D2 st hlt fun x1 x2 h' tk p1 p2 st' ht hsz hk => ?_
    exact wpAny_pure (hq _ _ _ ⟨x1, x2, rfl, p1, p2, st', ht, hsz, hk⟩)
  · obtain ⟨x1, x2, rfl, p1, p2, st', ht, hsz, hk⟩ := hR
    exact hk _ _ ez eT e1 e2 he
  · obtain ⟨x1, x2, rfl, p1, p2, st', ht, hsz, hk⟩ := hR
    exact wpAny_pure (hQ x1 x2 h1 tk h' p1 p2 st' ht hsz hk a1 a2 a3 a4)
theorem next_end (S : ZipSep2 z TI TO i1 i2 fp1 fp2) (D1 : Draws prog w A.in1.in1 i1 fp1 n P1 St1) {e : Addr} {c : Int} {old : Value} {Q : Option Value → Shared → Prop}
    (st : ZS z TI TO i1 i2 St1 St2 n s.heap) (he : IsEnum s.heap e z c old)
    (hQ : ∀ h' tk, (∀ c o, c ≠ z → c ≠ TO → c ≠ i1 → c ≠ i2 → s.heap.get? c = some o → h'.get? c = some o) → Q none { s with heap := h', toks := tk }) :
    wpAny (model prog w) A (pyNext (.ref e)) Q E s := by
  have hT : s.TypeIs (.ref e) "enumerate" := ⟨_, he, rfl⟩
  have hZ : s.TypeIs (.ref z) "zip" := zipIs (h := s.heap) st.1
  unfold pyNext
  refine wpAny_bind (wpAny_attempt (wpAny_callSpecial?_slot (name := Str.ofString "__next__") hT F.slot_enumerate_next
    (wpAny_call_entry F.slot_enumerate_next hT F.entry_enumerate_next ?_ (F.args_enumerate_next_1 _))))
  show wpAny _ _ (field (.ref e) 2 >>= _) _ _ _
  refine wpAny_bind (wpAny_field he rfl (x := .ref z) rfl ?_)
  refine wpAny_bind ?_
  unfold Builtin.SmallTypes.nextOf
  refine wpAny_bind (wpAny_callSpecial?_slot (name := Str.ofString "__next__") hZ F.slot_zip_next
    (wpAny_call_entry F.slot_zip_next hZ F.entry_zip_next ?_ (F.args_zip_next_1 _)))
  refine done S D1 st fun h' tk x hk hx => ?_
  obtain ⟨o, ho, hc⟩ := hx
  refine wpAny_bind (wpAny_isInstance (T := "StopIteration") (b := true) ⟨o, ho, hc⟩ isSubtype_stop ?_)
  exact wpAny_pure (hQ _ _ hk)

/-- enumerate over a zip -/
theorem newEnumZ {z TI TO : Addr} :
    Meets (Builtin.«enumerate.__new__» ⟨[.type "enumerate", .ref z], []⟩) (fun _ R sh => ZipA sh.heap z TI TO ∧
      R (.ok (.ret (.ref sh.heap.objs.size))) { sh with heap := sh.heap.push { cls := .type "enumerate", data := .fields #[.none, .bool false, .ref z, rawInt 0, .none, .none] } }) :=
  .of_wp fun prog w A R sh hh => by
    obtain ⟨hp, gn, dr, tk, os⟩ := sh
    obtain ⟨hG, hR⟩ := hh
    have sb := sub_enumerate
    have go : ∀ {A' : Around} {E : Value → Shared → Prop} {Q : Value → Shared → Prop}, Q (.ref z) ⟨hp, gn, dr, tk, os⟩ → wpAny (model prog w) A' (pyIter (.ref z)) Q E ⟨hp, gn, dr, tk, os⟩ :=
      fun q => by
        have hT : Shared.TypeIs ⟨hp, gn, dr, tk, os⟩ (.ref z) "zip" := by
          obtain ⟨_, _, _, e⟩ := hG
          exact ⟨_, e, rfl⟩
        refine wpAny_pyIter_slot hT F.slot_zip_iter (wpAny_call_entry F.slot_zip_iter hT F.entry_zip_iter ?_ (F.args_zip_iter_1 _))
        show wpAny _ _ (ret (.ref z)) _ _ _
        exact wpAny_pure ⟨_, rfl, "zip", _, hT, F.slot_zip_next.lookup, q⟩
    wp_walk using go
    refine wpAny_stack_any fun _ => wpAny_pure ?_
    split
    · rename_i c _ _ _ _ _
      cases (c == Value.type "enumerate")
      all_goals
        wp_walk using go
        exact ⟨_, rfl, hR⟩
    · wp_walk using go
      exact ⟨_, rfl, hR⟩
theorem callEnumZ {z TI TO : Addr} {Q : Value → Shared → Prop} (h1 : ZipA s.heap z TI TO)
    (h : IsEnum (s.heap.push { cls := .type "enumerate", data := .fields #[.none, .bool false, .ref z, rawInt 0, .none, .none] }) s.heap.objs.size z 0 .none →
      Q (.ref s.heap.objs.size) { s with heap := s.heap.push { cls := .type "enumerate", data := .fields #[.none, .bool false, .ref z, rawInt 0, .none, .none] } }) :
    wpAny (model prog w) A (call (.type "enumerate") [.ref z]) Q E s := by
  refine callType_new F.called_enumerate (by decide) (F.typeCall_enumerate_1 _) (F.newCall_enumerate_1 _) (fun obj => F.args_object_init_2 obj _) F.entry_enumerate_new (newEnumZ (TI := TI) (TO := TO)) ⟨h1, ?_⟩
  show _ ∧ _
  have en : IsEnum (s.heap.push { cls := .type "enumerate", data := .fields #[.none, .bool false, .ref z, rawInt 0, .none, .none] }) s.heap.objs.size z 0 .none := Heap.get?_push_size _ rfl
  exact ⟨⟨_, en, rfl⟩, h en⟩
end

section
open L2 PyProof.Rows
/-- pairs of the lists at a and b with their number, in new tuples -/
def Itez (K : PySem.W.Frag) (a b : Addr) : L2.It :=
  ⟨fun i H => ∃ (xs ys : List V) (x y : V), SqL K H a xs ∧ SqL K H b ys ∧ xs.length = ys.length ∧ xs[i]? = some x ∧ ys[i]? = some y,
   fun i H v H' => ∃ T1 T2 x y, v = .ref T2 ∧ H T1 = none ∧ upd H T1 (.tup [x, y]) T2 = none ∧ H' = upd (upd H T1 (.tup [x, y])) T2 (.tup [.int (i : Nat), .ref T1]) ∧ (∀ xs, SqL K H a xs → xs[i]? = some x) ∧ ∀ ys, SqL K H b ys → ys[i]? = some y,
   fun i H => ∃ xs ys : List V, SqL K H a xs ∧ SqL K H b ys ∧ xs.length = i ∧ ys.length = i⟩
/-- the cells lie apart -/
structure Sep (e z TI TO i1 i2 a b : Addr) : Prop where
  zs : ZipSep2 z TI TO i1 i2 [i1, a] [i2, b]
  ez : e ≠ z
  eI : e ≠ TI
  eO : e ≠ TO
  e1 : e ≠ i1
  e2 : e ≠ i2
  a1 : a ≠ i1
  b2 : b ≠ i2
def EzS (e z TI TO i1 i2 a b : Addr) (i : Nat) (h : Heap) : Prop :=
  (∃ old, IsEnum h e z ((i : Nat) : Int) old) ∧ ZipA h z TI TO ∧ IsTupOf2 h TI (.ref i1) (.ref i2) ∧ (∃ x y, IsTupOf2 h TO x y) ∧ h.IsListIter i1 a i ∧ h.IsListIter i2 b i
theorem turn {P : Program} {w : World} {K : PySem.W.Frag} {elts : List Expr} {kk : Nat} {tpos : Pos} {e z TI TO i1 i2 a b : Addr} (D : Sep e z TI TO i1 i2 a b) :
    L2.Turn P w K (.Tuple elts kk tpos) (Itez K a b) [e, z, TI, TO, i1, i2] e (EzS e z TI TO i1 i2 a b) where
  mem := by simp
  obj := fun i h st c hc => by
    obtain ⟨⟨old, he⟩, ⟨f0, f1, _, hz⟩, hTI, ⟨x, y, hTO⟩, ⟨o1, e1, _, d1⟩, ⟨o2, e2, _, d2⟩⟩ := st
    have e' : c = e ∨ c = z ∨ c = TI ∨ c = TO ∨ c = i1 ∨ c = i2 := by simpa using hc
    rcases e' with q | q | q | q | q | q
    · rw [q]; exact ⟨_, he, fun v q => nomatch q⟩
    · rw [q]; exact ⟨_, hz, fun v q => nomatch q⟩
    · rw [q]; exact ⟨_, hTI, fun v q => nomatch q⟩
    · rw [q]; exact ⟨_, hTO, fun v q => nomatch q⟩
    · rw [q]; exact ⟨o1, e1, fun v q => by rw [d1] at q; cases q⟩
    · rw [q]; exact ⟨o2, e2, fun v q => by rw [d2] at q; cases q⟩
  keep := fun i h h' st k => by
    obtain ⟨⟨old, he⟩, ⟨f0, f1, c0, hz⟩, hTI, ⟨x, y, hTO⟩, h1, h2⟩ := st
    exact ⟨⟨old, k e (by simp) _ he⟩, ⟨f0, f1, c0, k z (by simp) _ hz⟩, k TI (by simp) _ hTI, ⟨x, y, k TO (by simp) _ hTO⟩, h1.at fun o q => k i1 (by simp) o q, h2.at fun o q => k i2 (by simp) o q⟩
  item := by
    intro X hP hw hK hc i pins s σ H E I hf st hg
    subst hP hw hK
    obtain ⟨⟨old, he⟩, hz, hTI, hTO, h1, h2⟩ := st
    obtain ⟨xs, ys, x, y, hqx, hqy, hlen, hx, hy⟩ := hg
    obtain ⟨its, rv, p, _⟩ := I.list hqx
    obtain ⟨its2, rv2, p2, _⟩ := I.list hqy
    have l1 := rv.length
    have l2 := rv2.length
    obtain ⟨u, hu, ru⟩ := rv.get hx
    obtain ⟨u2, hu2, ru2⟩ := rv2.get hy
    have hel : e < s.heap.objs.size := Heap.lt_size he
    have hil : i < its.toArray.size := by
      have := (List.getElem?_eq_some_iff.mp hu).1
      simpa using this
    have D1 := Draws.list (prog := X.prog) (w := X.w) (A := X.A.in1.in1) (I.ok.hd hc) i1 a D.a1 its.toArray
    have D2 := Draws.list (prog := X.prog) (w := X.w) (A := X.A.in1.in1) (I.ok.hd hc) i2 b D.b2 its2.toArray
    rw [show its2.toArray.size = its.toArray.size by rw [List.size_toArray, List.size_toArray]; omega] at D2
    refine next_item D.zs D1 D2 (i := i) ⟨hz, hTI, hTO, ⟨h1, p.isList⟩, ⟨h2, p2.isList⟩⟩ hil he D.ez D.eO D.e1 D.e2 fun x1 x2 g1 tk g2 y1 y2 z1 t1 sz1 k1 o2 t2 sz2 k2 => ?_
    refine ⟨_, rfl, wpAny_letOwnedTupleGo_enum (s := { s with heap := g2, toks := tk + 1 }) o2 fun g3 he3 sb => ?_⟩
    replace sb : Heap.SameBut e g2 g3 := sb
    have eu : x1 = u := by
      have q : its.toArray[i]? = some u := by simpa using hu
      exact Option.some.inj (y1.symm.trans q)
    have eu2 : x2 = u2 := by
      have q : its2.toArray[i]? = some u2 := by simpa using hu2
      exact Option.some.inj (y2.symm.trans q)
    subst eu eu2
    have hel1 : e < g1.objs.size := by rw [sz1]; exact Nat.lt_succ_of_lt hel
    have hT2 : g3.get? g1.objs.size = some { cls := .type "tuple", data := .seq #[.int i tk, .ref s.heap.objs.size] } := (sb.2 _ (Nat.ne_of_gt hel1)).trans t2
    have new1 : ObjOk X.prog X.w (upd H s.heap.objs.size (.tup [x, y])) g1 s.heap.objs.size (.tup [x, y]) :=
      ⟨by show 2 ≤ sizeLine; decide, [x1, x2], .cons ru (.cons ru2 .nil), ⟨_, t1, rfl, _, rfl⟩⟩
    have I1 : Inv X pins σ (upd H s.heap.objs.size (.tup [x, y])) { s with heap := g1, toks := tk } :=
      I.turnedNew (ch := [e, z, TI, TO, i1, i2]) (fun c o nb q => k1 c o (fun q' => nb (by simp [q'])) (fun q' => nb (by simp [q'])) (fun q' => nb (by simp [q'])) (fun q' => nb (by simp [q'])) q) hf (Nat.le_refl _) new1
    have hfe := hf e (by simp)
    have ne1 : upd H s.heap.objs.size (.tup [x, y]) e = none := by rw [upd_ne (Nat.ne_of_lt hel)]; exact hfe.1
    have nT2 : upd H s.heap.objs.size (.tup [x, y]) g1.objs.size = none := I1.hok.fresh (Nat.le_refl _)
    have new2 : ObjOk X.prog X.w (upd (upd H s.heap.objs.size (.tup [x, y])) g1.objs.size (.tup [.int (i : Nat), .ref s.heap.objs.size])) g3 g1.objs.size (.tup [.int (i : Nat), .ref s.heap.objs.size]) :=
      ⟨by show 2 ≤ sizeLine; decide, [.int i tk, .ref s.heap.objs.size], .cons ⟨_, rfl⟩ (.cons rfl .nil), ⟨_, hT2, rfl, _, rfl⟩⟩
    have I2 : Inv X pins σ (upd (upd H s.heap.objs.size (.tup [x, y])) g1.objs.size (.tup [.int (i : Nat), .ref s.heap.objs.size])) { s with heap := g3, toks := tk + 1 } :=
      I1.turnedNew (ch := [e]) (fun c o nb q => (sb.2 c (fun z => nb (by simp [z]))).trans (k2 c o (fun z => nb (by simp [z])) q)) (fun c hc => by
        have ec : c = e := by simpa using hc
        rw [ec]
        exact ⟨ne1, hfe.2⟩) (Nat.le_refl _) new2
    obtain ⟨⟨f0, f1, c0, hz1⟩, hTI1, ⟨w1, w2, hTO1⟩, ⟨h11, _⟩, ⟨h21, _⟩⟩ := z1
    have up : ∀ c o, c ≠ e → g1.get? c = some o → g3.get? c = some o := fun c o nc q => (sb.2 c nc).trans (k2 c o nc q)
    refine ⟨.ref g1.objs.size, _, I2, rfl, ⟨s.heap.objs.size, g1.objs.size, x, y, rfl, I.hok.fresh (Nat.le_refl _), nT2, rfl, fun l hl => by rw [I.list_inj hl hqx]; exact hx, fun l hl => by rw [I.list_inj hl hqy]; exact hy⟩, ⟨⟨.ref s.heap.objs.size, ?_⟩, ⟨f0, f1, c0, up _ _ (Ne.symm D.ez) hz1⟩, up _ _ (Ne.symm D.eI) hTI1, ⟨w1, w2, up _ _ (Ne.symm D.eO) hTO1⟩, h11.at fun o q => up _ _ (Ne.symm D.e1) q, h21.at fun o q => up _ _ (Ne.symm D.e2) q⟩, fun c hcm => ?_⟩
    · have e1 : ((i + 1 : Nat) : Int) = (i : Int) + 1 := by omega
      rw [e1]
      exact he3
    · have hlt : c < s.heap.objs.size := by
        have e' : c = e ∨ c = z ∨ c = TI ∨ c = TO ∨ c = i1 ∨ c = i2 := by simpa using hcm
        rcases e' with q | q | q | q | q | q
        · rw [q]; exact hel
        · rw [q]; obtain ⟨_, _, _, e0⟩ := hz; exact Heap.lt_size e0
        · rw [q]; exact Heap.lt_size hTI
        · rw [q]; obtain ⟨_, _, e0⟩ := hTO; exact Heap.lt_size e0
        · rw [q]; obtain ⟨_, e0, _⟩ := h1; exact Heap.lt_size e0
        · rw [q]; obtain ⟨_, e0, _⟩ := h2; exact Heap.lt_size e0
      rw [upd_ne (Nat.ne_of_lt (by rw [sz1]; exact Nat.lt_succ_of_lt hlt)), upd_ne (Nat.ne_of_lt hlt)]
      exact (hf c hcm).1
  done := by
    intro X hP hw hK hc i pins s σ H E I hf st hg
    subst hP hw hK
    obtain ⟨⟨old, he⟩, hz, hTI, hTO, h1, h2⟩ := st
    obtain ⟨xs, ys, hqx, hqy, hl1, hl2⟩ := hg
    obtain ⟨its, rv, p, _⟩ := I.list hqx
    obtain ⟨its2, rv2, p2, _⟩ := I.list hqy
    have l1 := rv.length
    have ei : i = its.toArray.size := by rw [List.size_toArray]; omega
    have D1 := Draws.list (prog := X.prog) (w := X.w) (A := X.A.in1.in1) (I.ok.hd hc) i1 a D.a1 its.toArray
    rw [← ei] at D1
    exact next_end D.zs D1 (St2 := fun i h => h.IsListIter i2 b i) ⟨hz, hTI, hTO, ⟨h1, p.isList⟩, h2⟩ he fun h' tk hk => ⟨rfl, I.turnedL (t' := tk) (ch := [e, z, TI, TO, i1, i2]) (fun c o hb q =>
      hk c o (fun q' => hb (by simp [q'])) (fun q' => hb (by simp [q'])) (fun q' => hb (by simp [q'])) (fun q' => hb (by simp [q'])) q) hf⟩
  self := fun A i s Q E st h => let ⟨⟨_, he⟩, _⟩ := st; wpAny_pyIter_enum he h
def iEz (K : PySem.W.Frag) (ta : TA) : TI := fun σ H R => ta σ H fun vs H1 => ∃ a b xs ys, vs = [.ref a, .ref b] ∧ SqL K H1 a xs ∧ SqL K H1 b ys ∧ R (Itez K a b) H1
theorem pi_enumZip {X : Cx} {e e2 : Expr} {ta : TA} {p p2 pos pos2 tpos : Pos} {elts : List Expr} {kk : Nat} (hg : Gl X "enumerate") (hm : X.mg "enumerate" = none) (hg2 : Gl X "zip") (hm2 : X.mg "zip" = none) (ha : PA X [e, e2] ta)
    (hs0 : starEach [.Call (.Name "zip" p2) [e, e2] [] pos2] X.env = [(false, eval (.Call (.Name "zip" p2) [e, e2] [] pos2) X.env)] := by rfl)
    (hs : starEach [e, e2] X.env = (false, eval e X.env) :: starEach [e2] X.env := by rfl) (hpl : (backTo pos2 (starEach [e2] X.env)).any (·.1) = false := by rfl) :
    PI X (.Tuple elts kk tpos) (.Call (.Name "enumerate" p) [.Call (.Name "zip" p2) [e, e2] [] pos2] [] pos) (iEz X.K ta) := by
  refine ⟨fun pins s σ H R I h => ?_⟩
  refine PyProof.Rows.Call_ (ld_blt I hg hm PyProof.Rows.boot_enumerate (PyProof.Rows.callWith_type1 (PyProof.Rows.args_cons ?_) hs0 rfl))
  refine PyProof.Rows.Call_ (ld_blt I hg2 hm2 PyProof.Rows.boot_zip (PyProof.Rows.callWith_type1 (thn (ha.run pos2 pins s σ H _ I h) fun us s1 ⟨vs, H1, I1, r1, q1⟩ => ?_) hs hpl))
  obtain ⟨a, b, xs, ys, ex, hqx, hqy, q⟩ := q1
  subst ex
  cases r1 with
  | cons r rr =>
    cases rr with
    | cons r' rr =>
      cases rr
      cases r
      cases r'
      obtain ⟨its, rv, p1, _⟩ := I1.list hqx
      obtain ⟨its2, rv2, p2, _⟩ := I1.list hqy
      have la : a < s1.heap.objs.size := p1.lt
      have lb : b < s1.heap.objs.size := p2.lt
      refine call_zip_2 p1.isList p2.isList fun h' hz hTI hTO h1 h2 hsz hk => PyProof.Rows.args_nil ?_
      refine callEnumZ (s := { s1 with heap := h' }) (TI := s1.heap.objs.size + 2) (TO := s1.heap.objs.size + 3) ⟨.none, .bool false, .inl rfl, hz⟩ fun he => wpAny_pyIter_enum he ?_
      have kk' : ∀ b o, h'.get? b = some o → (h'.push { cls := .type "enumerate", data := .fields #[.none, .bool false, .ref (s1.heap.objs.size + 4), rawInt 0, .none, .none] }).get? b = some o := fun b o q => Heap.get?_push_of_some _ q
      have I2 : Inv X pins σ H1 { s1 with heap := h'.push { cls := .type "enumerate", data := .fields #[.none, .bool false, .ref (s1.heap.objs.size + 4), rawInt 0, .none, .none] } } := I1.kept (t' := s1.toks) fun b o q => kk' b o (hk b o q)
      have ehs : h'.objs.size = s1.heap.objs.size + 5 := hsz
      have sp : Sep (s1.heap.objs.size + 5) (s1.heap.objs.size + 4) (s1.heap.objs.size + 2) (s1.heap.objs.size + 3) s1.heap.objs.size (s1.heap.objs.size + 1) a b :=
        ⟨zip_sep2 (N := s1.heap.objs.size) (fp1 := [a]) (fp2 := [b]) (fun c hc => by rw [List.mem_singleton.mp hc]; exact la) (fun c hc => by rw [List.mem_singleton.mp hc]; exact lb), by show @Ne Nat _ _; omega, by show @Ne Nat _ _; omega, by show @Ne Nat _ _; omega, by show @Ne Nat _ _; omega, by show @Ne Nat _ _; omega, Nat.ne_of_lt la, Nat.ne_of_lt (Nat.lt_succ_of_lt lb)⟩
      refine ⟨s1.heap.objs.size + 5, [s1.heap.objs.size + 5, s1.heap.objs.size + 4, s1.heap.objs.size + 2, s1.heap.objs.size + 3, s1.heap.objs.size, s1.heap.objs.size + 1], _, _, H1, ?_, I2, turn sp, ⟨⟨.none, ?_⟩, ⟨.none, .bool false, .inl rfl, kk' _ _ hz⟩, kk' _ _ hTI, ⟨_, _, kk' _ _ hTO⟩, h1.at fun o q => kk' _ o q, h2.at fun o q => kk' _ o q⟩, fun c hcm => ?_, q⟩
      · show Value.ref h'.objs.size = _
        rw [ehs]
      · have he' := he
        rw [show (({ s1 with heap := h' } : Shared).heap.objs.size) = s1.heap.objs.size + 5 from ehs] at he'
        exact he'
      · have hle : s1.heap.objs.size ≤ c := by
          have e' : c = s1.heap.objs.size + 5 ∨ c = s1.heap.objs.size + 4 ∨ c = s1.heap.objs.size + 2 ∨ c = s1.heap.objs.size + 3 ∨ c = s1.heap.objs.size ∨ c = s1.heap.objs.size + 1 := by simpa using hcm
          rcases e' with q | q | q | q | q | q <;> rw [q]
          all_goals first | exact Nat.le_refl _ | exact Nat.le_add_right _ _
        exact I1.fpOk hle (I1.hok.fresh hle)

theorem walk {K : PySem.W.Frag} {a b : Addr} {xs ys : List V} (hn : ys.length = xs.length) : Walk (Itez K a b) xs.length (fun H => SqL K H a xs ∧ SqL K H b ys)
    (fun i H v H' => ∃ T1 T2 x y, v = .ref T2 ∧ H T1 = none ∧ upd H T1 (.tup [x, y]) T2 = none ∧ H' = upd (upd H T1 (.tup [x, y])) T2 (.tup [.int (i : Nat), .ref T1]) ∧ xs[i]? = some x ∧ ys[i]? = some y) := by
  refine ⟨fun i _ hi q => ?_, fun _ q => ⟨xs, ys, q.1, q.2, rfl, hn⟩, fun i H v H' _ q y => ?_⟩
  · have h2 : i < ys.length := by omega
    exact ⟨xs, ys, xs[i], ys[i], q.1, q.2, hn.symm, by simp [hi], by simp [h2]⟩
  · obtain ⟨T1, T2, x, z, h1, h2, h3, h4, h5, h6⟩ := y
    exact ⟨T1, T2, x, z, h1, h2, h3, h4, h5 xs q.1, h6 ys q.2⟩
end
end EZ
end
def kEz (K : PySem.W.Frag) (R : L2.It → Hp → Prop) : List V → Hp → Prop := fun vs H1 => ∃ a b xs ys, vs = [.ref a, .ref b] ∧ SqL K H1 a xs ∧ SqL K H1 b ys ∧ R (EZ.Itez K a b) H1
theorem r_iez {K : PySem.W.Frag} {ta : TA} {σ : L2.St} {H : Hp} {R : L2.It → Hp → Prop} (h : ta σ H (kEz K R)) : EZ.iEz K ta σ H R := h
theorem r_kEz {K : PySem.W.Frag} {a b : Addr} {xs ys : List V} {H : Hp} {R : L2.It → Hp → Prop} (h1 : SqL K H a xs) (h2 : SqL K H b ys) (h : R (EZ.Itez K a b) H) : kEz K R [.ref a, .ref b] H := ⟨a, b, xs, ys, rfl, h1, h2, h⟩
theorem r_forEz {K : PySem.W.Frag} {a b : Addr} {xs ys : List V} {σ : L2.St} {H : Hp} {D : Ends} {g : TG} {tb : TS} (Pv : Nat → L2.St → Hp → Prop) (hn : ys.length = xs.length) (h0 : Pv 0 σ H) (hl : ∀ i σ H, i ≤ xs.length → Pv i σ H → SqL K H a xs ∧ SqL K H b ys)
    (hs : ∀ (i : Nat) (x y : V) (σ : L2.St) (H H' : Hp) (T1 T2 : Addr), xs[i]? = some x → ys[i]? = some y → Pv i σ H → H T1 = none → H T2 = none → T1 ≠ T2 → H' T1 = some (.tup [x, y]) → H' T2 = some (.tup [.int (i : Nat), .ref T1]) → (∀ c, c ≠ T1 → c ≠ T2 → H' c = H c) → g (.ref T2) σ H' fun σ2 H2 => tb { D with nx := Pv (i + 1), ct := Pv (i + 1), bk := D.nx } σ2 H2)
    (hd : ∀ σ H, Pv xs.length σ H → D.nx σ H) : kFor g tb D σ (EZ.Itez K a b) H :=
  for_it (EZ.walk hn) Pv h0 hl (fun i v σ H H' hlt p y => by
    obtain ⟨T1, T2, x, z, e1, e2, e3, e4, e5, e6⟩ := y
    subst e1
    have hne : T1 ≠ T2 := fun q => by
      rw [← q, upd_same] at e3
      cases e3
    have n2 : H T2 = none := by rw [upd_ne (Ne.symm hne)] at e3; exact e3
    exact hs i x z σ H H' T1 T2 e5 e6 p e2 n2 hne (by rw [e4, upd_ne hne, upd_same]) (by rw [e4, upd_same]) fun c c1 c2 => by rw [e4, upd_ne c2, upd_ne c1]) hd

def rowD (r : Str × Int × Int) : PyData := .tuple [.str r.1, .int r.2.1, .int r.2.2]
theorem condF_ok {W : LgM} {s : Int} : PyData.strOk (condF W s) = true := by
  unfold condF
  split
  · decide +kernel
  · split
    · decide +kernel
    · decide +kernel
theorem rowD_fl {r : Str × Int × Int} (h : PyData.strOk r.1 = true) : Fl 1 (rowD r) := Fl.tup (Fl.cons ⟨by simp [PyData.canLay0, h], by simp [PyData.depth]⟩ (Fl.cons (Fl.int _ _) (Fl.cons (Fl.int _ _) Fl.nil)))
theorem rowsD_fl {L : Lay} {W : LgM} {D : List (Option BD)} {ns : List Int} {n : Nat} : Fl 2 (.list ((rowsF L W D ns n).map rowD)) := Fl.lst fun d hd => by
  obtain ⟨o, ho, rfl⟩ := List.mem_map.mp hd
  unfold rowsF at ho
  obtain ⟨s, _, rfl⟩ := List.mem_map.mp ho
  exact rowD_fl condF_ok
theorem rowsD_dp {K : PySem.W.Frag} {H : Hp} : ∀ {vs : List V} {rs : List (Str × Int × Int)}, RowsAt K H vs rs → DpAll K H vs (rs.map rowD)
  | _, _, .nil => .nil
  | _, _, .cons ⟨t, e, h⟩ r => by
    subst e
    exact .cons (.tup h (.cons (.str _) (.cons (.int _) (.cons (.int _) .nil)))) (rowsD_dp r)
theorem r_neRows {K : PySem.W.Frag} {H : Hp} {a b : Addr} {vs us : List V} {L : Lay} {W : LgM} {D : List (Option BD)} {ns : List Int} {n : Nat} {Q : V → Hp → Prop} (h : H a = some (.lst vs)) (h' : H b = some (.lst us)) (hv : RowsAt K H vs (rowsF L W D ns n)) (hu : RowsAt K H us (rowsF L W D ns n)) (q : Q (.bl false) H) : rNeD K (.ref a) (.ref b) H Q := by
  refine r_ned (.lst (.of h) (rowsD_dp hv)) (.lst (.of h') (rowsD_dp hu)) rowsD_fl.shaped rowsD_fl.shaped ?_
  rw [rowsD_fl.self]
  exact q

/-! ### the rows of segments, as the log tells them -/
def sp_condition (K : PySem.W.Frag) (C CD CC CL : Addr) : Sp := fun args_ H Q _ => ∃ (G : Hp) (g : Addr) (u : LU) (W : LgM) (L : Lay) (s : Int), args_ = [.ref g, .int s] ∧ LogQ K C CD CC CL L G H g u W ∧ Same G H ∧ Q (.str (condF W s)) H
theorem i_condition {K : PySem.W.Frag} {C CD CC CL : Addr} {args_ : List V} {H : Hp} {Q : V → Hp → Prop} {E : XK} {G : Hp} {g : Addr} {u : LU} {W : LgM} {L : Lay} {s : Int} (ev : args_ = [.ref g, .int s]) (hQ : LogQ K C CD CC CL L G H g u W) (hG : Same G H) (q : Q (.str (condF W s)) H) : sp_condition K C CD CC CL args_ H Q E := ⟨G, g, u, W, L, s, ev, hQ, hG, q⟩
local macro_rules | `(tactic| walk_at "ca1") => `(tactic| with_reducible (refine' Sg.i_condition ?ev ?hQ ?hG ?_; (case ev => (with_unfolding_all rfl)); (case hQ => (with_unfolding_all walk_at "pr")); (case hG => (with_unfolding_all walk_at "pr"))))

theorem ok_condition (T : Txt K mg) : FnOk P w K mg base CX0 1 T.a_condition T.fd_condition ["log", "segment"] (sp_condition K T.A_Log T.A_Device T.A_Counts T.A_Layout) := by
  refine T.F_condition.ok sc_condition (fun vs H Q E h => ?_) (fun cdv A outer s H vs Q E hr h => ?_)
  · obtain ⟨G, g, u, W, L, s, rfl, _⟩ := h
    rfl
  · refine ⟨_, (pss_cons (ps_if (pt_cmpR op_in_seq (pv 1) (pe_fld (pv 0) rfl) (by with_unfolding_all rfl))
       (pss_one (ps_ret pe_str))
       pss_nil)
       (pss_cons (ps_if (pt_cmpR op_eq (pv 1) (pe_fld (pv 0) rfl) (nomark _))
       (pss_one (ps_ret pe_str))
       pss_nil)
       (pss_one (ps_ret pe_str)))), ?_⟩
    try dsimp only [cxOf, Cx.nox, Cx.wish]
    obtain ⟨G, g, u, W, L, s, rfl, hQ, hG, q⟩ := h
    have cl_Log := T.cl_Log
    have na_Log_head := T.na_Log_head
    have na_Log_queue := T.na_Log_queue
    obtain ⟨dx, fs, hg, F⟩ := hQ.obj
    have f1 := F.head
    have f2 := F.qa
    have hqa := hG _ _ hQ.sta.qa
    walk_at "go"
    refine r_in (.inl (.of hqa)) rfl (flat_ints _) ?_
    rw [if_neg (by decide), inV_ints]
    walk_at "go"
    unfold condF at q
    refine r_ite (fun c1 => ?_) (fun c1 => ?_)
    · rw [if_pos c1] at q
      walk_at "go"
      exact q
    · rw [if_neg c1] at q
      walk_at "go"
      refine r_ite (fun c2 => ?_) (fun c2 => ?_)
      · rw [if_pos c2] at q
        walk_at "go"
        exact q
      · rw [if_neg c2] at q
        walk_at "go"
        exact q
def sp_segment_rows (w : World) (K : PySem.W.Frag) (C CD CC CL : Addr) : Sp := fun args_ H Q _ => ∃ (H0 G : Hp) (la g : Addr) (u : LU) (W : LgM) (D : List (Option BD)) (L : Lay) (n : Nat), args_ = [.ref g] ∧ One K C CD CC CL L H0 G H la g u W D n ∧ LayC L ∧ ∀ H' l vs ns, Same H H' → H l = none → H' l = some (.lst vs) → RowsAt K H' vs (rowsF L W D ns L.seg.toNat) → IsLive W ns → Q (.ref l) H'
theorem i_segment_rows {w : World} {K : PySem.W.Frag} {C CD CC CL : Addr} {args_ : List V} {H : Hp} {Q : V → Hp → Prop} {E : XK} {H0 G : Hp} {la g : Addr} {u : LU} {W : LgM} {D : List (Option BD)} {L : Lay} {n : Nat} (ev : args_ = [.ref g]) (S : One K C CD CC CL L H0 G H la g u W D n) (hC : LayC L) (q : ∀ H' l vs ns, Same H H' → H l = none → H' l = some (.lst vs) → RowsAt K H' vs (rowsF L W D ns L.seg.toNat) → IsLive W ns → Q (.ref l) H') : sp_segment_rows w K C CD CC CL args_ H Q E := ⟨H0, G, la, g, u, W, D, L, n, ev, S, hC, q⟩
local macro_rules | `(tactic| walk_at "ca1") => `(tactic| with_reducible (refine' Sg.i_segment_rows ?ev ?S ?hC ?_; (case ev => (with_unfolding_all rfl)); (case S => (with_unfolding_all walk_at "pr")); (case hC => (with_unfolding_all walk_at "pr")); intros))

theorem ok_segment_rows (T : Txt K mg) : FnOk P w K mg base CX0 6 T.a_segment_rows T.fd_segment_rows ["log"] (sp_segment_rows w K T.A_Log T.A_Device T.A_Counts T.A_Layout) := by
  refine T.F_segment_rows.ok sc_segment_rows (fun vs H Q E h => ?_) (fun cdv A outer s H vs Q E hr h => ?_)
  · obtain ⟨H0, G, la, g, u, W, D, L, n, rfl, _⟩ := h
    rfl
  · refine ⟨_, (pss_cons (ps_set (i := 1) sc_segment_rows.nd rfl (Or.inl rfl) (pe_lst pa_nil))
       (pss_cons (ps_for PassesOwn.never rfl (EZ.pi_enumZip (by rfl) T.n_enumerate (by rfl) T.n_zip (pa_cons (pe_call (ok_live_counts T) (hr.mono (by decide)) rfl T.m_live_counts T.F_live_counts.kp T.b_live_counts .nil pass0 (pa_cons (pv 0) pa_nil)) (pa_cons (pe_call (ok_ages T) (hr.mono (by decide)) rfl T.m_ages T.F_ages.kp T.b_ages .nil pass0 (pa_cons (pv 0) pa_nil)) pa_nil))) (pg_tup (by rfl) (pgs_cons (pg_name (i := 2) sc_segment_rows.nd rfl (Or.inl rfl)) (pgs_cons (pg_tup (by rfl) (pgs_cons (pg_name (i := 3) sc_segment_rows.nd rfl (Or.inl rfl)) (pgs_cons (pg_name (i := 4) sc_segment_rows.nd rfl (Or.inl rfl)) pgs_nil))) pgs_nil)))
       (pss_one (ps_expr (pe_bm PySem.F.plainAttrs_list PySem.F.slot_list_append PySem.F.type_list_append mt_append (pv 1) (pa_cons (pe_tup (pa_cons (pe_call (ok_condition T) (hr.mono (by decide)) rfl T.m_condition T.F_condition.kp T.b_condition .nil pass0 (pa_cons (pv 0) (pa_cons (pv 2) pa_nil))) (pa_cons (pv 3) (pa_cons (pv 4) pa_nil)))) pa_nil)))))
       (pss_one (ps_ret (pv 1))))), ?_⟩
    try dsimp only [cxOf, Cx.nox, Cx.wish]
    obtain ⟨H0, G, la, g, u, W, D, L, n, rfl, S, hC, q⟩ := h
    have s0 := hC.s0
    have s16 := hC.s1
    walk_at "go"
    rename_i p np H1 s1 g1
    have S1 := S.grew s1
    have hQ1 := S1.lq
    have hG1 := S1.f.gh
    have hW1 := S1.fit.ok
    have hV1 := S1.fit.va
    refine r_iez ?_
    walk_at "go"
    rename_i H2 lc ns s2 nlc glc hlive
    have S2 := S1.grew s2
    walk_at "go"
    rename_i H3 al s3 nal gal
    refine r_kEz (.of (s3 _ _ glc)) (.of gal) ?_
    have s13 : Same H H3 := s1.trans (s2.trans s3)
    have gp3 := s3 _ _ (s2 _ _ g1)
    have nlp : lc ≠ p := fun z => by rw [z, g1] at nlc; cases nlc
    have nap : al ≠ p := fun z => by rw [z, s2 _ _ g1] at nal; cases nal
    have sB : Same H (hid p H3) := same_hid s13 np
    have glB : hid p H3 lc = some (.lst ((cnL L ns).map V.int)) := by rw [hid_ne nlp]; exact s3 _ _ glc
    have gaB : hid p H3 al = some (.lst ((agesL L W D).map V.int)) := by rw [hid_ne nap]; exact gal
    have hBp : hid p H3 p = none := hid_at
    have sB3 : Same (hid p H3) H3 := hid_same
    generalize hid p H3 = HB at sB glB gaB hBp sB3
    have lc0 : (cnL L ns).length = L.seg.toNat := cnL_len
    have la0 : (agesL L W D).length = L.seg.toNat := by rw [agesL, List.length_map, List.length_range]
    refine r_forEz (xs := (cnL L ns).map V.int) (ys := (agesL L W D).map V.int) (fun i σ' H' => ∃ (v2 v3 v4 : Option V) (vs : List V), σ' = [some (.ref g), some (.ref p), v2, v3, v4] ∧ Same HB H' ∧ H' p = some (.lst vs) ∧ RowsAt K H' vs (rowsF L W D ns i)) (by rw [List.length_map, List.length_map, lc0, la0]) ⟨_, _, _, [], rfl, sB3, gp3, .nil⟩ (fun i σ' H' _ ⟨_, _, _, _, _, s, _, _⟩ => ⟨.of (s _ _ glB), .of (s _ _ gaB)⟩) ?_ ?_
    · rintro i x y σ' H4 H5 T1 T2 ex ey ⟨v2, v3, v4, vs, rfl, s4, g4, hr⟩ n1 n2 n12 t1 t2 hk
      have s5 : Same H4 H5 := fun b o h => by
        rw [hk b (fun z => by rw [z, n1] at h; cases h) (fun z => by rw [z, n2] at h; cases h)]
        exact h
      rw [List.getElem?_map] at ex ey
      obtain ⟨zx, hx, e⟩ := Option.map_eq_some_iff.mp ex
      subst e
      obtain ⟨zy, hy, e⟩ := Option.map_eq_some_iff.mp ey
      subst e
      have his : i < L.seg.toNat := by
        have := (List.getElem?_eq_some_iff.mp hx).1
        omega
      have ezx : zx = (cn L ns i : Int) := by
        have := cnL_at (ns := ns) his
        rw [List.getD_eq_getElem?_getD, hx] at this
        exact this
      have ezy : zy = W.last - newF L D (i : Nat) L.blk.toNat := by
        unfold agesL at hy
        rw [List.getElem?_map, List.getElem?_range his] at hy
        exact (Option.some.inj hy).symm
      subst ezx ezy
      have s05 : Same H H5 := sB.trans (s4.trans s5)
      have S5 := S.grew s05
      have hQ5 := S5.lq
      have hG5 := S5.f.gh
      have g5 := s5 _ _ g4
      walk_at "go"
      rename_i rt nrt H7 s7 g7
      have lv6 : vs.length = i := by have := Paired.length hr; unfold rowsF at this; rw [List.length_map, List.length_range] at this; exact this
      refine r_app (s7 _ _ g5) (by rw [sz]; omega) ?_
      generalize e8 : upd H7 p _ = H8
      have k8 : Keeps H4 H8 := (Keeps.of (s5.trans s7)).trans (Keeps.upd (s7 _ _ g5) (fun z => nomatch z) e8)
      refine ⟨_, _, _, _, rfl, Sg.Same.old (s4.trans (s5.trans s7)) hBp e8, by rw [← e8, upd_same], ?_⟩
      rw [rowsF_snoc]
      exact paired_snoc (hr.keeps k8) ⟨rt, rfl, (Keeps.upd (s7 _ _ g5) (fun z => nomatch z) e8).tup (.of g7)⟩
    · rintro σ' H4 ⟨v2, v3, v4, vs, rfl, s4, g4, hr⟩
      rw [List.length_map, lc0] at hr
      walk_at "go"
      exact q _ _ vs ns (sB.trans s4) np g4 hr hlive

local macro_rules | `(tactic| walk_at "tyx") => `(tactic| first | (refine' Sg.tyx_tup ?ha; (case ha => walk_at "hp")) | (refine' Sg.tyx_lst ?ha; (case ha => walk_at "hp")))
def spLawK (K : PySem.W.Frag) : Sp := fun vs H Q _ => ∃ (a : Addr) (ns : List Int), vs = [.ref a] ∧ Scr K H a ns ∧ ns.length ≤ 63 ∧ ∀ H', Q (.bl true) H'
theorem ok_law (T : Txt K mg) : FnOk P w K mg base CX0 8 T.a_law T.fd_law ["script"] (spLawK K) := by
  refine T.F_law.ok sc_law (fun vs H Q E h => ?_) (fun cdv A outer s H vs Q E hr h => ?_)
  · obtain ⟨a, ns, rfl, _⟩ := h
    rfl
  · refine ⟨_, (pss_cons (ps_set (i := 1) sc_law.nd rfl (Or.inl rfl) (pe_call (ok_law_layout T) (hr.mono (by decide)) rfl T.m_law_layout T.F_law_layout.kp T.b_law_layout .nil pass0 (pa_cons (pe_call (ok_law_row T) (hr.mono (by decide)) rfl T.m_law_row T.F_law_row.kp T.b_law_row .nil pass0 (pa_cons (pv 0) (pa_cons pe_int pa_nil))) pa_nil)))
       (pss_cons (ps_set (i := 2) sc_law.nd rfl (Or.inl rfl) (pe_call (ok_new_log T) (hr.mono (by decide)) rfl T.m_new_log T.F_new_log.kp T.b_new_log .nil pass0 (pa_cons (pe_make T.M_Device (ok_Device___init T) (hr.mono (by decide)) rfl T.m_Device T.b_Device___init_2 T.v_Device___init_2 pass0 (pa_cons (pv 1) pa_nil)) pa_nil)))
       (pss_cons (ps_set (i := 3) sc_law.nd rfl (Or.inl rfl) (pe_lst (pa_cons pe_dnewK (pa_cons pe_non (pa_cons pe_non (pa_cons pe_non pa_nil))))))
       (pss_cons (ps_for PassesOwn.never rfl (pi_range1 rfl T.n_range (pa_cons pe_int pa_nil)) (pg_name (i := 4) sc_law.nd rfl (Or.inl rfl))
       (pss_cons (ps_set (i := 3) sc_law.nd rfl (Or.inl rfl) (pe_call (ok_law_deed T) (hr.mono (by decide)) rfl T.m_law_deed T.F_law_deed.kp T.b_law_deed .nil pass0 (pa_cons (pv 1) (pa_cons (pv 2) (pa_cons (pv 3) (pa_cons (pv 0) (pa_cons (pv 4) pa_nil)))))))
       (pss_one (ps_if (pt_cmpR op_eq (pe_op op_mod (pv 4) pe_int) pe_int (nomark _))
       (pss_cons (ps_set (i := 5) sc_law.nd rfl (Or.inl rfl) (pe_call (ok_law_rows T) (hr.mono (by decide)) rfl T.m_law_rows T.F_law_rows.kp T.b_law_rows .nil pass0 (pa_cons (pv 1) (pa_cons (pv 2) pa_nil))))
       (pss_cons (ps_set (i := 6) sc_law.nd rfl (Or.inl rfl) (pe_call (ok_segment_rows T) (hr.mono (by decide)) rfl T.m_segment_rows T.F_segment_rows.kp T.b_segment_rows .nil pass0 (pa_cons (pv 2) pa_nil)))
       (C8.pss_cut (ps_if (PW.pt (pw_or (pt_not (pt_val (pe_callB (call_isi) (by rfl) T.n_isinstance (by decide +kernel) (pa_cons (pv 6) (pa_cons (pe_bltn (v := .ty "list") (by rfl) T.n_list (by decide +kernel) rfl) pa_nil))))) (pw_or1 (pt_cmpR (op_neD hr.units) (pv 6) (pv 5) (nomark _)))))
       (pss_one (ps_ret pe_bl))
       pss_nil)
       (C8.pss_cut (ps_if (PW.pt (pw_or (pt_cmpR (op_neD hr.units) (pe_call (ok_live_counts T) (hr.mono (by decide)) rfl T.m_live_counts T.F_live_counts.kp T.b_live_counts .nil pass0 (pa_cons (pv 2) pa_nil)) (pe_lc (own := [("row", 7)]) (g := gName 7) (tt := tYes) rfl sc_law.nd (pi_list (pv 5)) (blkOk_by (own := [("row", 7)]) (N := n_law) (sc := defScope s_law) (by decide +kernel)) (fun _ _ _ _ _ => pg_name (i := 7) sc_law.nd rfl (Or.inl rfl)) (fun _ _ _ _ _ => pts_nil) (fun _ _ _ _ _ => (pe_ix (ix_tupK K rfl) (pv 7) pe_int (fun _ _ => rfl)))) (nomark _)) (pw_or1 (pt_cmpR (op_neD hr.units) (pe_call (ok_ages T) (hr.mono (by decide)) rfl T.m_ages T.F_ages.kp T.b_ages .nil pass0 (pa_cons (pv 2) pa_nil)) (pe_lc (own := [("row", 7)]) (g := gName 7) (tt := tYes) rfl sc_law.nd (pi_list (pv 5)) (blkOk_by (own := [("row", 7)]) (N := n_law) (sc := defScope s_law) (by decide +kernel)) (fun _ _ _ _ _ => pg_name (i := 7) sc_law.nd rfl (Or.inl rfl)) (fun _ _ _ _ _ => pts_nil) (fun _ _ _ _ _ => (pe_ix (ix_tupK K rfl) (pv 7) pe_int (fun _ _ => rfl)))) (nomark _)))))
       (pss_one (ps_ret pe_bl))
       pss_nil)
       (pss_cons (ps_if (pt_cmpR (op_neD hr.units) (pe_call (ok_candidates T) (hr.mono (by decide)) rfl T.m_candidates T.F_candidates.kp T.b_candidates .nil pass0 (pa_cons (pv 2) pa_nil)) (pe_call (ok_law_candidates T) (hr.mono (by decide)) rfl T.m_law_candidates T.F_law_candidates.kp T.b_law_candidates .nil pass0 (pa_cons (pv 1) (pa_cons (pv 5) pa_nil))) (nomark _))
       (pss_one (ps_ret pe_bl))
       pss_nil)
       (pss_one (ps_expr (pe_bm PySem.F.plainAttrs_list PySem.F.slot_list_append PySem.F.type_list_append mt_append (pv 6) (pa_cons (pe_tup (pa_cons pe_str (pa_cons pe_int (pa_cons pe_int pa_nil)))) pa_nil)))))))))
       pss_nil))))
       (pss_one (ps_ret (pe_cmpR op_eq (pe_callB (c_len) (by rfl) T.n_len (by decide +kernel) (pa_cons (pe_call (ok_segment_rows T) (hr.mono (by decide)) rfl T.m_segment_rows T.F_segment_rows.kp T.b_segment_rows .nil pass0 (pa_cons (pv 2) pa_nil)) pa_nil)) (pe_fld (pv 1) rfl) (nomark _)))))))), ?_⟩
    try dsimp only [cxOf, Cx.nox, Cx.wish]
    obtain ⟨sc, scr, rfl, hS, h63, q⟩ := h
    have hS0 : SqL K H sc (scr.map V.int) := hS H (Keeps.refl H)
    have clL := T.cl_Layout
    have naS := T.na_Layout_segments
    walk_at "go"
    rename_i z0 z0' L H1 la hC s1 n01 hL1
    have d0 := hC.d0
    have d1 := hC.d1
    walk_at "go"
    rename_i d H2 hDI
    obtain ⟨hDE, su, sh, un, hDQ, hDn⟩ := DevQ.ofIn (ms := []) (H := H1) hDI
    obtain ⟨_, nd, _⟩ := id hDI
    have s2 : Same H1 H2 := fun x o h => hDE x o (fun z => nomatch z) h
    have lv : ∀ x ∈ [d, su, sh, un], H2 x ≠ none := fun x hx => by
      obtain ⟨_, _, _, h1, _, _, _, _, h2, h3, h4, _⟩ := hDQ
      simp only [List.mem_cons, List.not_mem_nil, or_false] at hx
      rcases hx with rfl | rfl | rfl | rfl
      · rw [h1]; exact fun z => nomatch z
      · rw [h2]; exact fun z => nomatch z
      · rw [h3]; exact fun z => nomatch z
      · rw [h4]; exact fun z => nomatch z
    have st2 := Stp.born (N := [d, su, sh, un]) (Same.refl H1) s2 (fun x hx => by
      rcases List.mem_cons.mp hx with h | h
      · rw [h]; exact nd
      · exact (hDn x h).resolve_left fun z => nomatch z) lv
    generalize cut4 [d, su, sh, un] (grow H1 H1 H2) = G2 at st2
    have hL2 := hL1.mono st2.gg
    have e1 : (newM la (List.replicate L.dev.toNat V.non)).shown = List.replicate L.dev.toNat V.non := rfl
    have e2 : (newM la (List.replicate L.dev.toNat V.non)).wait = [] := rfl
    have e3 : (newM la (List.replicate L.dev.toNat V.non)).lay = la := rfl
    generalize newM la (List.replicate L.dev.toNat V.non) = m0 at *
    refine i_new_log (D := List.replicate L.dev.toNat none) rfl hDQ st2.frm (by rw [e3]; exact hL2) hC (by rw [e1]; exact blks_none _) (by rw [e2]; exact Nat.zero_le _) (fun g ul G3 H3 m3 st3 lq3 ms3 _ B3 => ?_)
    have hL3 := hL2.mono st3.gg
    have f3 : Fit L (bornW m3 L) (ckDW L (bornW m3 L) (List.replicate L.dev.toNat none)) := ((initFit (m := m3) hC).check (ns := [])).re rfl rfl rfl rfl rfl rfl
    have w3 : m3.wait.length ≤ 100 := by have := ms3.wt; rw [e2, List.length_nil] at this; have := hC.r1; omega
    have k3 : Keeps H H3 := (Keeps.of (s1.trans s2)).trans st3.kp
    have w3' : (bornW m3 L).m.wait.length ≤ 100 * (0 + 1) := w3
    have S3 : One K T.A_Log T.A_Device T.A_Counts T.A_Layout L H G3 H3 la g ul (bornW m3 L) (ckDW L (bornW m3 L) (List.replicate L.dev.toNat none)) 0 := ⟨st3.frm, lq3, B3, f3, hL3, k3, w3'⟩
    have sn3 : Snd L (bornW m3 L) (ckDW L (bornW m3 L) (List.replicate L.dev.toNat none)) := Snd.init hC
    have l3 : (bornW m3 L).last = 1 := rfl
    generalize bornW m3 L = W3 at S3 sn3 l3
    generalize ckDW L W3 (List.replicate L.dev.toNat none) = D3 at S3 sn3
    clear f3 w3 w3' lq3 ms3 B3
    walk_at "go"
    rename_i d4 nd4 H4a s4a gd4 sa4 nsa4 H4 s4b gsa4
    have S4 := S3.grew (s4a.trans s4b)
    have gsa4G : grow G3 H3 H4 sa4 = some (.lst [.ref d4, .non, .non, .non]) := by rw [grow_new (s4a.free nsa4)]; exact gsa4
    have gd4G : grow G3 H3 H4 d4 = some (.dK []) := by rw [grow_new nd4]; exact s4b _ _ gd4
    generalize grow G3 H3 H4 = G4 at S4 gsa4G gd4G
    refine r_forR (fun i σ' H' => ∃ (G' : Hp) (W : LgM) (D : List (Option BD)) (ul : LU) (sa d : Addr) (w1 w2 w3 : V) (kvs : List (Key × V)) (v4 v5 v6 : Option V), σ' = [some (.ref sc), some (.ref la), some (.ref g), some (.ref sa), v4, v5, v6, none] ∧ One K T.A_Log T.A_Device T.A_Counts T.A_Layout L H G' H' la g ul W D i ∧ G' sa = some (.lst [.ref d, w1, w2, w3]) ∧ G' d = some (.dK kvs) ∧ Kno K L H' kvs) ⟨G4, W3, D3, ul, sa4, d4, _, _, _, _, _, _, _, rfl, S4, gsa4G, gd4G, .nil⟩ ?_ ?_
    · rintro i σ' H5 hi ⟨G5, W5, D5, ul5, sa5, d5, w1, w2, w3, kvs5, v4, v5, v6, rfl, S5, gsa5, gd5, hk5⟩
      rw [Int.zero_add]
      have hi28 : i < 28 := hi
      walk_at "go"
      rename_i G6 H6 u6 W6 D6 sa6 d6 x1 x2 x3 kvs6 sg6 k6 S6 hD6 gsa6 gd6 hk6 zz hz zz0 zz1
      have q0 := hC.s0
      have q1 := hC.s1
      have hql : W6.queue.length ≤ 1000 := by have := S6.fit.ql; omega
      refine r_ite (fun c => ?_) (fun c => ?_)
      · walk_at "go"
        rename_i H7 ra vs ns s7 nra gra hrows hlive
        have S7 := S6.grew s7
        walk_at "go"
        rename_i H8 ta us ns2 s8 nta gta hus hlive2
        have e2 := live_uniq hlive hlive2
        subst e2
        have gra8 := s8 _ _ gra
        have hrows8 := hrows.keeps (Keeps.of s8)
        have S8 := S7.grew s8
        have hQ8 := S8.lq
        have hG8 := S8.f.gh
        have hW8 := S8.fit.ok
        have hV8 := S8.fit.va
        refine r_cutS ?_ ?_
        · walk_at "go"
          refine r_neRows gta gra8 hus hrows8 ?_
          walk_at "go"
          exact ⟨rfl, rfl⟩
        have lvs : vs.length = L.seg.toNat := by have := Paired.length hrows8; unfold rowsF at this; rw [List.length_map, List.length_range] at this; exact this
        have rowAt : ∀ (j : Nat) (x : V) (H' : Hp), Same H8 H' → vs[j]? = some x → j < L.seg.toNat ∧ ∃ t : Addr, x = .ref t ∧ SqT K H' t [.str (condF W6 (j : Nat)), .int (cn L ns j : Int), .int (W6.last - newF L D6 (j : Nat) L.blk.toNat)] := fun j x H' s hx => by
          have hj : j < L.seg.toNat := by
            have := (List.getElem?_eq_some_iff.mp hx).1
            omega
          obtain ⟨r, hr1, hr2⟩ := paired_at hrows8 hx
          unfold rowsF at hr1
          rw [List.getElem?_map, List.getElem?_range hj] at hr1
          cases hr1
          obtain ⟨t, et, ht⟩ := hr2
          exact ⟨hj, t, et, Sg.Same.tup s ht⟩
        refine r_cutH ?_ (fun H12 s12 => ?_)
        · walk_at "go"
          rename_i H9 lc ns3 s9 nlc glc hlive3
          have e3 := live_uniq hlive hlive3
          subst e3
          refine r_lcL (xs := vs) (fun j acc H' => acc = ((cnL L ns).take j).map V.int) (.of (s9 _ _ gra8)) (by omega) rfl rfl ?_ ?_
          · rintro j x acc Ha Hb ex sa rfl sb R hR
            obtain ⟨hj, t, rfl, ht⟩ := rowAt j x Hb (s9.trans (sa.trans sb)) ex
            walk_at "go"
            refine hR _ _ (Same.refl _) fun Dd hDa hDb => ?_
            have e1 : (cnL L ns)[j]? = some (cn L ns j : Int) := by
              have := cnL_at (L := L) (ns := ns) hj
              rw [List.getD_eq_getElem?_getD, List.getElem?_eq_getElem (by rw [cnL_len]; exact hj)] at this
              rw [List.getElem?_eq_getElem (by rw [cnL_len]; exact hj)]
              exact congrArg some this
            rw [List.take_add_one, e1, List.map_append]
            rfl
          · rintro H10 rl acc s10 nrl grl el rfl
            rw [lvs, ← cnL_len (L := L) (ns := ns), List.take_length] at grl
            walk_at "go"
            refine r_neI (.of (s10 _ _ glc)) (.of grl) ?_
            have S10 := S8.grew (s9.trans s10)
            walk_at "go"
            rename_i H11 al s11 nal gal
            refine r_lcL (xs := vs) (fun j acc H' => acc = ((agesL L W6 D6).take j).map V.int) (.of (s11 _ _ (s10 _ _ (s9 _ _ gra8)))) (by omega) rfl rfl ?_ ?_
            · rintro j x acc Ha Hb ex sa rfl sb R hR
              obtain ⟨hj, t, rfl, ht⟩ := rowAt j x Hb (s9.trans (s10.trans (s11.trans (sa.trans sb)))) ex
              walk_at "go"
              refine hR _ _ (Same.refl _) fun Dd hDa hDb => ?_
              have e1 : (agesL L W6 D6)[j]? = some (W6.last - newF L D6 (j : Nat) L.blk.toNat) := by
                unfold agesL
                rw [List.getElem?_map, List.getElem?_range hj]
                rfl
              rw [List.take_add_one, e1, List.map_append]
              rfl
            · rintro H12 rm acc2 s12 nrm grm em rfl
              have la0 : (agesL L W6 D6).length = L.seg.toNat := by rw [agesL, List.length_map, List.length_range]
              rw [lvs, ← la0, List.take_length] at grm
              walk_at "go"
              refine r_neI (.of (s12 _ _ gal)) (.of grm) ?_
              walk_at "go"
              exact ⟨rfl, s9.trans (s10.trans (s11.trans s12))⟩
        have S12 := S8.grew s12
        have hQ12 := S12.lq
        have hG12 := S12.f.gh
        have gra12 := s12 _ _ gra8
        have hrows12 := hrows8.keeps (Keeps.of s12)
        have hly12 := S12.lay.mono S12.f.gh
        walk_at "go"
        rename_i H13 cl ns4 s13 ncl gcl hlive4
        have e4 := live_uniq hlive hlive4
        subst e4
        have gra13 := s13 _ _ gra12
        have hrows13 := hrows12.keeps (Keeps.of s13)
        have hly13 := hly12.mono s13
        walk_at "go"
        rename_i H14 dl s14 ndl gdl
        have gta14 := s14 _ _ (s13 _ _ (s12 _ _ gta))
        refine r_neI (.of (s14 _ _ gcl)) (.of gdl) ?_
        walk_at "go"
        rename_i tt ntt H15 s15 gtt
        have s8f : Same H8 H15 := s12.trans (s13.trans (s14.trans s15))
        have lus : us.length = L.seg.toNat := by have := Paired.length hus; unfold rowsF at this; rw [List.length_map, List.length_range] at this; exact this
        refine r_app (s8f _ _ gta) (by rw [sz]; omega) ?_
        generalize e16 : upd H15 ta _ = H16
        have s616 : Same H6 H16 := Sg.Same.old (s7.trans (s8.trans s8f)) (s7.free nta) e16
        have S16 := S6.grew s616
        have sgr := grow_same (H' := H16) S6.f.gh
        exact ⟨grow G6 H6 H16, W6, D6, u6, sa6, d6, _, _, _, _, _, _, _, rfl, S16, sgr _ _ gsa6, sgr _ _ gd6, hk6.keeps (Keeps.of s616)⟩
      · walk_at "go"
        exact ⟨G6, W6, D6, u6, sa6, d6, _, _, _, _, _, _, _, rfl, S6, gsa6, gd6, hk6⟩
    rintro σ' H5 ⟨G5, W5, D5, ul5, sa5, d5, w1, w2, w3, kvs5, v4, v5, v6, rfl, S5, gsa5, gd5, hk5⟩
    obtain ⟨dxl, fsl, hl5, Fl⟩ := S5.lay.mono S5.f.gh
    have m1 := Fl.seg
    have q0 := hC.s0
    have q1 := hC.s1
    walk_at "go"
    rename_i H6 ta us ns2 s6 nta gta hus hlive2
    have hl6 := s6 _ _ hl5
    have lus : us.length = L.seg.toNat := by have := Paired.length hus; unfold rowsF at this; rw [List.length_map, List.length_range] at this; exact this
    walk_at "go"
    rw [show decide (((us.length : Nat) : Int) = L.seg) = true from decide_eq_true (by rw [lus]; omega)]
    exact q _

end
theorem all_mk {l : PySem.W.OpenLaw} {w : World} {K : PySem.W.Frag} {h : Heap} {mg : Str → Option Value} {fa C_Layout C_Counts C_Log C_Device f_Layout___init f_address_at f_segment_of f_region_start f_parts_of f_is_payload f_payload_of f_stamped f_Counts___init f_empty_table f_copy_of_table f_commit_to_table f_slots_after f_move_in_table f_Log___init f_payload_at f_live_addresses f_append_commit f_append_move f_sync_log f_enter_next_segment f_listed_in f_take_batch f_write_batch f_live_counts f_ages f_segment_rows f_candidates f_condition f_Device___init f_Device_read f_Device_write f_Device_barrier f_Device_pending f_Device_written_blocks f_Device__takes_place f_put_block f_filled f_pieces f_checkpoint_numbers f_write_checkpoint f_slot_numbers f_segments_to_free f_new_log f_victims f_cargo f_fill f_law_row f_law_digits f_law_layout f_law_after f_law_payloads f_law_ids f_law_used f_law_live f_law_deed f_law_rows f_law_candidates f_law k_BLOCK_SIZES dT_Device___init : Addr} (X : K.In h) (G : h.Ns mainGlobals mg) (hfa : mg "law" = some (.ref fa))
    {od_Layout___init an_Layout___init od_address_at an_address_at od_segment_of an_segment_of od_region_start an_region_start od_parts_of an_parts_of od_is_payload an_is_payload od_payload_of an_payload_of od_stamped an_stamped od_Counts___init an_Counts___init od_empty_table an_empty_table od_copy_of_table an_copy_of_table od_commit_to_table an_commit_to_table od_slots_after an_slots_after od_move_in_table an_move_in_table od_Log___init an_Log___init od_payload_at an_payload_at od_live_addresses an_live_addresses od_append_commit an_append_commit od_append_move an_append_move od_sync_log an_sync_log od_enter_next_segment an_enter_next_segment od_listed_in an_listed_in od_take_batch an_take_batch od_write_batch an_write_batch od_live_counts an_live_counts od_ages an_ages od_segment_rows an_segment_rows od_candidates an_candidates od_condition an_condition od_Device___init an_Device___init od_Device_read an_Device_read od_Device_write an_Device_write od_Device_barrier an_Device_barrier od_Device_pending an_Device_pending od_Device_written_blocks an_Device_written_blocks od_Device__takes_place an_Device__takes_place od_put_block an_put_block od_filled an_filled od_pieces an_pieces od_checkpoint_numbers an_checkpoint_numbers od_write_checkpoint an_write_checkpoint od_slot_numbers an_slot_numbers od_segments_to_free an_segments_to_free od_new_log an_new_log od_victims an_victims od_cargo an_cargo od_fill an_fill od_law_row an_law_row od_law_digits an_law_digits od_law_layout an_law_layout od_law_after an_law_after od_law_payloads an_law_payloads od_law_ids an_law_ids od_law_used an_law_used od_law_live an_law_live od_law_deed an_law_deed od_law_rows an_law_rows od_law_candidates an_law_candidates od_law an_law : Option Addr} {sl_Layout___init sl_address_at sl_segment_of sl_region_start sl_parts_of sl_is_payload sl_payload_of sl_stamped sl_Counts___init sl_empty_table sl_copy_of_table sl_commit_to_table sl_slots_after sl_move_in_table sl_Log___init sl_payload_at sl_live_addresses sl_append_commit sl_append_move sl_sync_log sl_enter_next_segment sl_listed_in sl_take_batch sl_write_batch sl_live_counts sl_ages sl_segment_rows sl_candidates sl_condition sl_Device___init sl_Device_read sl_Device_write sl_Device_barrier sl_Device_pending sl_Device_written_blocks sl_Device__takes_place sl_put_block sl_filled sl_pieces sl_checkpoint_numbers sl_write_checkpoint sl_slot_numbers sl_segments_to_free sl_new_log sl_victims sl_cargo sl_fill sl_law_row sl_law_digits sl_law_layout sl_law_after sl_law_payloads sl_law_ids sl_law_used sl_law_live sl_law_deed sl_law_rows sl_law_candidates sl_law : Array (Option Value)} {oc_Layout___init kV_Layout___init dc_Layout___init pm_Layout___init cd_Layout___init ct_Layout___init oc_address_at kV_address_at dc_address_at pm_address_at cd_address_at ct_address_at oc_segment_of kV_segment_of dc_segment_of pm_segment_of cd_segment_of ct_segment_of oc_region_start kV_region_start dc_region_start pm_region_start cd_region_start ct_region_start oc_parts_of kV_parts_of dc_parts_of pm_parts_of cd_parts_of ct_parts_of oc_is_payload kV_is_payload dc_is_payload pm_is_payload cd_is_payload ct_is_payload oc_payload_of kV_payload_of dc_payload_of pm_payload_of cd_payload_of ct_payload_of oc_stamped kV_stamped dc_stamped pm_stamped cd_stamped ct_stamped oc_Counts___init kV_Counts___init dc_Counts___init pm_Counts___init cd_Counts___init ct_Counts___init oc_empty_table kV_empty_table dc_empty_table pm_empty_table cd_empty_table ct_empty_table oc_copy_of_table kV_copy_of_table dc_copy_of_table pm_copy_of_table cd_copy_of_table ct_copy_of_table oc_commit_to_table kV_commit_to_table dc_commit_to_table pm_commit_to_table cd_commit_to_table ct_commit_to_table oc_slots_after kV_slots_after dc_slots_after pm_slots_after cd_slots_after ct_slots_after oc_move_in_table kV_move_in_table dc_move_in_table pm_move_in_table cd_move_in_table ct_move_in_table oc_Log___init kV_Log___init dc_Log___init pm_Log___init cd_Log___init ct_Log___init oc_payload_at kV_payload_at dc_payload_at pm_payload_at cd_payload_at ct_payload_at oc_live_addresses kV_live_addresses dc_live_addresses pm_live_addresses cd_live_addresses ct_live_addresses oc_append_commit kV_append_commit dc_append_commit pm_append_commit cd_append_commit ct_append_commit oc_append_move kV_append_move dc_append_move pm_append_move cd_append_move ct_append_move oc_sync_log kV_sync_log dc_sync_log pm_sync_log cd_sync_log ct_sync_log oc_enter_next_segment kV_enter_next_segment dc_enter_next_segment pm_enter_next_segment cd_enter_next_segment ct_enter_next_segment oc_listed_in kV_listed_in dc_listed_in pm_listed_in cd_listed_in ct_listed_in oc_take_batch kV_take_batch dc_take_batch pm_take_batch cd_take_batch ct_take_batch oc_write_batch kV_write_batch dc_write_batch pm_write_batch cd_write_batch ct_write_batch oc_live_counts kV_live_counts dc_live_counts pm_live_counts cd_live_counts ct_live_counts oc_ages kV_ages dc_ages pm_ages cd_ages ct_ages oc_segment_rows kV_segment_rows dc_segment_rows pm_segment_rows cd_segment_rows ct_segment_rows oc_candidates kV_candidates dc_candidates pm_candidates cd_candidates ct_candidates oc_condition kV_condition dc_condition pm_condition cd_condition ct_condition oc_Device___init kV_Device___init dc_Device___init pm_Device___init cd_Device___init ct_Device___init oc_Device_read kV_Device_read dc_Device_read pm_Device_read cd_Device_read ct_Device_read oc_Device_write kV_Device_write dc_Device_write pm_Device_write cd_Device_write ct_Device_write oc_Device_barrier kV_Device_barrier dc_Device_barrier pm_Device_barrier cd_Device_barrier ct_Device_barrier oc_Device_pending kV_Device_pending dc_Device_pending pm_Device_pending cd_Device_pending ct_Device_pending oc_Device_written_blocks kV_Device_written_blocks dc_Device_written_blocks pm_Device_written_blocks cd_Device_written_blocks ct_Device_written_blocks oc_Device__takes_place kV_Device__takes_place dc_Device__takes_place pm_Device__takes_place cd_Device__takes_place ct_Device__takes_place oc_put_block kV_put_block dc_put_block pm_put_block cd_put_block ct_put_block oc_filled kV_filled dc_filled pm_filled cd_filled ct_filled oc_pieces kV_pieces dc_pieces pm_pieces cd_pieces ct_pieces oc_checkpoint_numbers kV_checkpoint_numbers dc_checkpoint_numbers pm_checkpoint_numbers cd_checkpoint_numbers ct_checkpoint_numbers oc_write_checkpoint kV_write_checkpoint dc_write_checkpoint pm_write_checkpoint cd_write_checkpoint ct_write_checkpoint oc_slot_numbers kV_slot_numbers dc_slot_numbers pm_slot_numbers cd_slot_numbers ct_slot_numbers oc_segments_to_free kV_segments_to_free dc_segments_to_free pm_segments_to_free cd_segments_to_free ct_segments_to_free oc_new_log kV_new_log dc_new_log pm_new_log cd_new_log ct_new_log oc_victims kV_victims dc_victims pm_victims cd_victims ct_victims oc_cargo kV_cargo dc_cargo pm_cargo cd_cargo ct_cargo oc_fill kV_fill dc_fill pm_fill cd_fill ct_fill oc_law_row kV_law_row dc_law_row pm_law_row cd_law_row ct_law_row oc_law_digits kV_law_digits dc_law_digits pm_law_digits cd_law_digits ct_law_digits oc_law_layout kV_law_layout dc_law_layout pm_law_layout cd_law_layout ct_law_layout oc_law_after kV_law_after dc_law_after pm_law_after cd_law_after ct_law_after oc_law_payloads kV_law_payloads dc_law_payloads pm_law_payloads cd_law_payloads ct_law_payloads oc_law_ids kV_law_ids dc_law_ids pm_law_ids cd_law_ids ct_law_ids oc_law_used kV_law_used dc_law_used pm_law_used cd_law_used ct_law_used oc_law_live kV_law_live dc_law_live pm_law_live cd_law_live ct_law_live oc_law_deed kV_law_deed dc_law_deed pm_law_deed cd_law_deed ct_law_deed oc_law_rows kV_law_rows dc_law_rows pm_law_rows cd_law_rows ct_law_rows oc_law_candidates kV_law_candidates dc_law_candidates pm_law_candidates cd_law_candidates ct_law_candidates oc_law kV_law dc_law pm_law cd_law ct_law : Value}
    {dd_Device___init : Option Addr} {dn_Device___init : Nat} {dsl_Device___init : Array (Option Value)}
    {t_COMMIT t_DATA t_MOVE t_NODE t_PART t_SUMMARY_HEAD yt_BLOCK_SIZES_0 yt_BLOCK_SIZES_1 yt_BLOCK_SIZES_2 : Tok}
    {yd_BLOCK_SIZES : Option Addr} {yn_BLOCK_SIZES : Nat} {ys_BLOCK_SIZES : Array (Option Value)}
    (mC_Layout : PySem.W.nsIn K mainGlobals "Layout" = some (some (.ref C_Layout)))
    (pg_Layout : PySem.W.plainGet K C_Layout Str.empty = true)
    (hd_Layout : PySem.W.hasDictIn K C_Layout = true)
    (po_Layout : PySem.W.plainOver K C_Layout = true)
    (sa_Layout : PySem.W.findIn K (.ref C_Layout) "__setattr__" = some (some (.builtin "object.__setattr__")))
    (mk_Layout : PySem.W.makesIn K C_Layout = true)
    (kc_Layout : PySem.W.keepIn K (.ref C_Layout) = true)
    (na_Layout_segments : PySem.W.findIn K (.ref C_Layout) "segments" = some none)
    (na_Layout_segment_blocks : PySem.W.findIn K (.ref C_Layout) "segment_blocks" = some none)
    (na_Layout_block_size : PySem.W.findIn K (.ref C_Layout) "block_size" = some none)
    (na_Layout_payload : PySem.W.findIn K (.ref C_Layout) "payload" = some none)
    (na_Layout_limit : PySem.W.findIn K (.ref C_Layout) "limit" = some none)
    (na_Layout_last_id : PySem.W.findIn K (.ref C_Layout) "last_id" = some none)
    (na_Layout_fan : PySem.W.findIn K (.ref C_Layout) "fan" = some none)
    (na_Layout_region_blocks : PySem.W.findIn K (.ref C_Layout) "region_blocks" = some none)
    (na_Layout_device_blocks : PySem.W.findIn K (.ref C_Layout) "device_blocks" = some none)
    (mC_Counts : PySem.W.nsIn K mainGlobals "Counts" = some (some (.ref C_Counts)))
    (pg_Counts : PySem.W.plainGet K C_Counts Str.empty = true)
    (hd_Counts : PySem.W.hasDictIn K C_Counts = true)
    (po_Counts : PySem.W.plainOver K C_Counts = true)
    (sa_Counts : PySem.W.findIn K (.ref C_Counts) "__setattr__" = some (some (.builtin "object.__setattr__")))
    (mk_Counts : PySem.W.makesIn K C_Counts = true)
    (kc_Counts : PySem.W.keepIn K (.ref C_Counts) = true)
    (na_Counts_commits : PySem.W.findIn K (.ref C_Counts) "commits" = some none)
    (na_Counts_commit_blocks : PySem.W.findIn K (.ref C_Counts) "commit_blocks" = some none)
    (na_Counts_moves : PySem.W.findIn K (.ref C_Counts) "moves" = some none)
    (na_Counts_move_blocks : PySem.W.findIn K (.ref C_Counts) "move_blocks" = some none)
    (na_Counts_checkpoints : PySem.W.findIn K (.ref C_Counts) "checkpoints" = some none)
    (na_Counts_checkpoint_blocks : PySem.W.findIn K (.ref C_Counts) "checkpoint_blocks" = some none)
    (na_Counts_barriers : PySem.W.findIn K (.ref C_Counts) "barriers" = some none)
    (mC_Log : PySem.W.nsIn K mainGlobals "Log" = some (some (.ref C_Log)))
    (pg_Log : PySem.W.plainGet K C_Log Str.empty = true)
    (hd_Log : PySem.W.hasDictIn K C_Log = true)
    (po_Log : PySem.W.plainOver K C_Log = true)
    (sa_Log : PySem.W.findIn K (.ref C_Log) "__setattr__" = some (some (.builtin "object.__setattr__")))
    (mk_Log : PySem.W.makesIn K C_Log = true)
    (kc_Log : PySem.W.keepIn K (.ref C_Log) = true)
    (na_Log_device : PySem.W.findIn K (.ref C_Log) "device" = some none)
    (na_Log_layout : PySem.W.findIn K (.ref C_Log) "layout" = some none)
    (na_Log_present : PySem.W.findIn K (.ref C_Log) "present" = some none)
    (na_Log_slots : PySem.W.findIn K (.ref C_Log) "slots" = some none)
    (na_Log_head : PySem.W.findIn K (.ref C_Log) "head" = some none)
    (na_Log_place : PySem.W.findIn K (.ref C_Log) "place" = some none)
    (na_Log_queue : PySem.W.findIn K (.ref C_Log) "queue" = some none)
    (na_Log_last_sequence : PySem.W.findIn K (.ref C_Log) "last_sequence" = some none)
    (na_Log_region : PySem.W.findIn K (.ref C_Log) "region" = some none)
    (na_Log_counts : PySem.W.findIn K (.ref C_Log) "counts" = some none)
    (mC_Device : PySem.W.nsIn K mainGlobals "Device" = some (some (.ref C_Device)))
    (pg_Device : PySem.W.plainGet K C_Device Str.empty = true)
    (hd_Device : PySem.W.hasDictIn K C_Device = true)
    (po_Device : PySem.W.plainOver K C_Device = true)
    (sa_Device : PySem.W.findIn K (.ref C_Device) "__setattr__" = some (some (.builtin "object.__setattr__")))
    (mk_Device : PySem.W.makesIn K C_Device = true)
    (kc_Device : PySem.W.keepIn K (.ref C_Device) = true)
    (na_Device_layout : PySem.W.findIn K (.ref C_Device) "layout" = some none)
    (na_Device__sure : PySem.W.findIn K (.ref C_Device) "_sure" = some none)
    (na_Device__shown : PySem.W.findIn K (.ref C_Device) "_shown" = some none)
    (na_Device__unsure : PySem.W.findIn K (.ref C_Device) "_unsure" = some none)
    (na_Device__commands_left : PySem.W.findIn K (.ref C_Device) "_commands_left" = some none)
    (na_Device__power_is_off : PySem.W.findIn K (.ref C_Device) "_power_is_off" = some none)
    (a_Layout___init : PySem.W.findIn K (.ref C_Layout) "__init__" = some (some (.ref f_Layout___init)))
    (i_Layout___init : PySem.W.isFn K (.ref f_Layout___init) = true)
    (l_Layout___init : K.lookup f_Layout___init = some ⟨oc_Layout___init, od_Layout___init, .func (PySem.W.fnOf "__init__" "Layout.__init__" (defArgs s_Layout___init) (defBody s_Layout___init) (defScope s_Layout___init) .none kV_Layout___init dc_Layout___init pm_Layout___init an_Layout___init cd_Layout___init ct_Layout___init), sl_Layout___init⟩)
    (c_Layout___init : PySem.W.codeIn K cd_Layout___init "Layout.__init__" = true)
    (k_Layout___init : PySem.W.keepIn K (.ref f_Layout___init) = true)
    (a_address_at : PySem.W.nsIn K mainGlobals "address_at" = some (some (.ref f_address_at)))
    (l_address_at : K.lookup f_address_at = some ⟨oc_address_at, od_address_at, .func (PySem.W.fnOf "address_at" "address_at" (defArgs s_address_at) (defBody s_address_at) (defScope s_address_at) .none kV_address_at dc_address_at pm_address_at an_address_at cd_address_at ct_address_at), sl_address_at⟩)
    (c_address_at : PySem.W.codeIn K cd_address_at "address_at" = true)
    (k_address_at : PySem.W.keepIn K (.ref f_address_at) = true)
    (a_segment_of : PySem.W.nsIn K mainGlobals "segment_of" = some (some (.ref f_segment_of)))
    (l_segment_of : K.lookup f_segment_of = some ⟨oc_segment_of, od_segment_of, .func (PySem.W.fnOf "segment_of" "segment_of" (defArgs s_segment_of) (defBody s_segment_of) (defScope s_segment_of) .none kV_segment_of dc_segment_of pm_segment_of an_segment_of cd_segment_of ct_segment_of), sl_segment_of⟩)
    (c_segment_of : PySem.W.codeIn K cd_segment_of "segment_of" = true)
    (k_segment_of : PySem.W.keepIn K (.ref f_segment_of) = true)
    (a_region_start : PySem.W.nsIn K mainGlobals "region_start" = some (some (.ref f_region_start)))
    (l_region_start : K.lookup f_region_start = some ⟨oc_region_start, od_region_start, .func (PySem.W.fnOf "region_start" "region_start" (defArgs s_region_start) (defBody s_region_start) (defScope s_region_start) .none kV_region_start dc_region_start pm_region_start an_region_start cd_region_start ct_region_start), sl_region_start⟩)
    (c_region_start : PySem.W.codeIn K cd_region_start "region_start" = true)
    (k_region_start : PySem.W.keepIn K (.ref f_region_start) = true)
    (a_parts_of : PySem.W.nsIn K mainGlobals "parts_of" = some (some (.ref f_parts_of)))
    (l_parts_of : K.lookup f_parts_of = some ⟨oc_parts_of, od_parts_of, .func (PySem.W.fnOf "parts_of" "parts_of" (defArgs s_parts_of) (defBody s_parts_of) (defScope s_parts_of) .none kV_parts_of dc_parts_of pm_parts_of an_parts_of cd_parts_of ct_parts_of), sl_parts_of⟩)
    (c_parts_of : PySem.W.codeIn K cd_parts_of "parts_of" = true)
    (k_parts_of : PySem.W.keepIn K (.ref f_parts_of) = true)
    (a_is_payload : PySem.W.nsIn K mainGlobals "is_payload" = some (some (.ref f_is_payload)))
    (l_is_payload : K.lookup f_is_payload = some ⟨oc_is_payload, od_is_payload, .func (PySem.W.fnOf "is_payload" "is_payload" (defArgs s_is_payload) (defBody s_is_payload) (defScope s_is_payload) .none kV_is_payload dc_is_payload pm_is_payload an_is_payload cd_is_payload ct_is_payload), sl_is_payload⟩)
    (c_is_payload : PySem.W.codeIn K cd_is_payload "is_payload" = true)
    (k_is_payload : PySem.W.keepIn K (.ref f_is_payload) = true)
    (a_payload_of : PySem.W.nsIn K mainGlobals "payload_of" = some (some (.ref f_payload_of)))
    (l_payload_of : K.lookup f_payload_of = some ⟨oc_payload_of, od_payload_of, .func (PySem.W.fnOf "payload_of" "payload_of" (defArgs s_payload_of) (defBody s_payload_of) (defScope s_payload_of) .none kV_payload_of dc_payload_of pm_payload_of an_payload_of cd_payload_of ct_payload_of), sl_payload_of⟩)
    (c_payload_of : PySem.W.codeIn K cd_payload_of "payload_of" = true)
    (k_payload_of : PySem.W.keepIn K (.ref f_payload_of) = true)
    (a_stamped : PySem.W.nsIn K mainGlobals "stamped" = some (some (.ref f_stamped)))
    (l_stamped : K.lookup f_stamped = some ⟨oc_stamped, od_stamped, .func (PySem.W.fnOf "stamped" "stamped" (defArgs s_stamped) (defBody s_stamped) (defScope s_stamped) .none kV_stamped dc_stamped pm_stamped an_stamped cd_stamped ct_stamped), sl_stamped⟩)
    (c_stamped : PySem.W.codeIn K cd_stamped "stamped" = true)
    (k_stamped : PySem.W.keepIn K (.ref f_stamped) = true)
    (a_Counts___init : PySem.W.findIn K (.ref C_Counts) "__init__" = some (some (.ref f_Counts___init)))
    (i_Counts___init : PySem.W.isFn K (.ref f_Counts___init) = true)
    (l_Counts___init : K.lookup f_Counts___init = some ⟨oc_Counts___init, od_Counts___init, .func (PySem.W.fnOf "__init__" "Counts.__init__" (defArgs s_Counts___init) (defBody s_Counts___init) (defScope s_Counts___init) .none kV_Counts___init dc_Counts___init pm_Counts___init an_Counts___init cd_Counts___init ct_Counts___init), sl_Counts___init⟩)
    (c_Counts___init : PySem.W.codeIn K cd_Counts___init "Counts.__init__" = true)
    (k_Counts___init : PySem.W.keepIn K (.ref f_Counts___init) = true)
    (a_empty_table : PySem.W.nsIn K mainGlobals "empty_table" = some (some (.ref f_empty_table)))
    (l_empty_table : K.lookup f_empty_table = some ⟨oc_empty_table, od_empty_table, .func (PySem.W.fnOf "empty_table" "empty_table" (defArgs s_empty_table) (defBody s_empty_table) (defScope s_empty_table) .none kV_empty_table dc_empty_table pm_empty_table an_empty_table cd_empty_table ct_empty_table), sl_empty_table⟩)
    (c_empty_table : PySem.W.codeIn K cd_empty_table "empty_table" = true)
    (k_empty_table : PySem.W.keepIn K (.ref f_empty_table) = true)
    (a_copy_of_table : PySem.W.nsIn K mainGlobals "copy_of_table" = some (some (.ref f_copy_of_table)))
    (l_copy_of_table : K.lookup f_copy_of_table = some ⟨oc_copy_of_table, od_copy_of_table, .func (PySem.W.fnOf "copy_of_table" "copy_of_table" (defArgs s_copy_of_table) (defBody s_copy_of_table) (defScope s_copy_of_table) .none kV_copy_of_table dc_copy_of_table pm_copy_of_table an_copy_of_table cd_copy_of_table ct_copy_of_table), sl_copy_of_table⟩)
    (c_copy_of_table : PySem.W.codeIn K cd_copy_of_table "copy_of_table" = true)
    (k_copy_of_table : PySem.W.keepIn K (.ref f_copy_of_table) = true)
    (a_commit_to_table : PySem.W.nsIn K mainGlobals "commit_to_table" = some (some (.ref f_commit_to_table)))
    (l_commit_to_table : K.lookup f_commit_to_table = some ⟨oc_commit_to_table, od_commit_to_table, .func (PySem.W.fnOf "commit_to_table" "commit_to_table" (defArgs s_commit_to_table) (defBody s_commit_to_table) (defScope s_commit_to_table) .none kV_commit_to_table dc_commit_to_table pm_commit_to_table an_commit_to_table cd_commit_to_table ct_commit_to_table), sl_commit_to_table⟩)
    (c_commit_to_table : PySem.W.codeIn K cd_commit_to_table "commit_to_table" = true)
    (k_commit_to_table : PySem.W.keepIn K (.ref f_commit_to_table) = true)
    (a_slots_after : PySem.W.nsIn K mainGlobals "slots_after" = some (some (.ref f_slots_after)))
    (l_slots_after : K.lookup f_slots_after = some ⟨oc_slots_after, od_slots_after, .func (PySem.W.fnOf "slots_after" "slots_after" (defArgs s_slots_after) (defBody s_slots_after) (defScope s_slots_after) .none kV_slots_after dc_slots_after pm_slots_after an_slots_after cd_slots_after ct_slots_after), sl_slots_after⟩)
    (c_slots_after : PySem.W.codeIn K cd_slots_after "slots_after" = true)
    (k_slots_after : PySem.W.keepIn K (.ref f_slots_after) = true)
    (a_move_in_table : PySem.W.nsIn K mainGlobals "move_in_table" = some (some (.ref f_move_in_table)))
    (l_move_in_table : K.lookup f_move_in_table = some ⟨oc_move_in_table, od_move_in_table, .func (PySem.W.fnOf "move_in_table" "move_in_table" (defArgs s_move_in_table) (defBody s_move_in_table) (defScope s_move_in_table) .none kV_move_in_table dc_move_in_table pm_move_in_table an_move_in_table cd_move_in_table ct_move_in_table), sl_move_in_table⟩)
    (c_move_in_table : PySem.W.codeIn K cd_move_in_table "move_in_table" = true)
    (k_move_in_table : PySem.W.keepIn K (.ref f_move_in_table) = true)
    (a_Log___init : PySem.W.findIn K (.ref C_Log) "__init__" = some (some (.ref f_Log___init)))
    (i_Log___init : PySem.W.isFn K (.ref f_Log___init) = true)
    (l_Log___init : K.lookup f_Log___init = some ⟨oc_Log___init, od_Log___init, .func (PySem.W.fnOf "__init__" "Log.__init__" (defArgs s_Log___init) (defBody s_Log___init) (defScope s_Log___init) .none kV_Log___init dc_Log___init pm_Log___init an_Log___init cd_Log___init ct_Log___init), sl_Log___init⟩)
    (c_Log___init : PySem.W.codeIn K cd_Log___init "Log.__init__" = true)
    (k_Log___init : PySem.W.keepIn K (.ref f_Log___init) = true)
    (a_payload_at : PySem.W.nsIn K mainGlobals "payload_at" = some (some (.ref f_payload_at)))
    (l_payload_at : K.lookup f_payload_at = some ⟨oc_payload_at, od_payload_at, .func (PySem.W.fnOf "payload_at" "payload_at" (defArgs s_payload_at) (defBody s_payload_at) (defScope s_payload_at) .none kV_payload_at dc_payload_at pm_payload_at an_payload_at cd_payload_at ct_payload_at), sl_payload_at⟩)
    (c_payload_at : PySem.W.codeIn K cd_payload_at "payload_at" = true)
    (k_payload_at : PySem.W.keepIn K (.ref f_payload_at) = true)
    (a_live_addresses : PySem.W.nsIn K mainGlobals "live_addresses" = some (some (.ref f_live_addresses)))
    (l_live_addresses : K.lookup f_live_addresses = some ⟨oc_live_addresses, od_live_addresses, .func (PySem.W.fnOf "live_addresses" "live_addresses" (defArgs s_live_addresses) (defBody s_live_addresses) (defScope s_live_addresses) .none kV_live_addresses dc_live_addresses pm_live_addresses an_live_addresses cd_live_addresses ct_live_addresses), sl_live_addresses⟩)
    (c_live_addresses : PySem.W.codeIn K cd_live_addresses "live_addresses" = true)
    (k_live_addresses : PySem.W.keepIn K (.ref f_live_addresses) = true)
    (a_append_commit : PySem.W.nsIn K mainGlobals "append_commit" = some (some (.ref f_append_commit)))
    (l_append_commit : K.lookup f_append_commit = some ⟨oc_append_commit, od_append_commit, .func (PySem.W.fnOf "append_commit" "append_commit" (defArgs s_append_commit) (defBody s_append_commit) (defScope s_append_commit) .none kV_append_commit dc_append_commit pm_append_commit an_append_commit cd_append_commit ct_append_commit), sl_append_commit⟩)
    (c_append_commit : PySem.W.codeIn K cd_append_commit "append_commit" = true)
    (k_append_commit : PySem.W.keepIn K (.ref f_append_commit) = true)
    (a_append_move : PySem.W.nsIn K mainGlobals "append_move" = some (some (.ref f_append_move)))
    (l_append_move : K.lookup f_append_move = some ⟨oc_append_move, od_append_move, .func (PySem.W.fnOf "append_move" "append_move" (defArgs s_append_move) (defBody s_append_move) (defScope s_append_move) .none kV_append_move dc_append_move pm_append_move an_append_move cd_append_move ct_append_move), sl_append_move⟩)
    (c_append_move : PySem.W.codeIn K cd_append_move "append_move" = true)
    (k_append_move : PySem.W.keepIn K (.ref f_append_move) = true)
    (a_sync_log : PySem.W.nsIn K mainGlobals "sync_log" = some (some (.ref f_sync_log)))
    (l_sync_log : K.lookup f_sync_log = some ⟨oc_sync_log, od_sync_log, .func (PySem.W.fnOf "sync_log" "sync_log" (defArgs s_sync_log) (defBody s_sync_log) (defScope s_sync_log) .none kV_sync_log dc_sync_log pm_sync_log an_sync_log cd_sync_log ct_sync_log), sl_sync_log⟩)
    (c_sync_log : PySem.W.codeIn K cd_sync_log "sync_log" = true)
    (k_sync_log : PySem.W.keepIn K (.ref f_sync_log) = true)
    (a_enter_next_segment : PySem.W.nsIn K mainGlobals "enter_next_segment" = some (some (.ref f_enter_next_segment)))
    (l_enter_next_segment : K.lookup f_enter_next_segment = some ⟨oc_enter_next_segment, od_enter_next_segment, .func (PySem.W.fnOf "enter_next_segment" "enter_next_segment" (defArgs s_enter_next_segment) (defBody s_enter_next_segment) (defScope s_enter_next_segment) .none kV_enter_next_segment dc_enter_next_segment pm_enter_next_segment an_enter_next_segment cd_enter_next_segment ct_enter_next_segment), sl_enter_next_segment⟩)
    (c_enter_next_segment : PySem.W.codeIn K cd_enter_next_segment "enter_next_segment" = true)
    (k_enter_next_segment : PySem.W.keepIn K (.ref f_enter_next_segment) = true)
    (a_listed_in : PySem.W.nsIn K mainGlobals "listed_in" = some (some (.ref f_listed_in)))
    (l_listed_in : K.lookup f_listed_in = some ⟨oc_listed_in, od_listed_in, .func (PySem.W.fnOf "listed_in" "listed_in" (defArgs s_listed_in) (defBody s_listed_in) (defScope s_listed_in) .none kV_listed_in dc_listed_in pm_listed_in an_listed_in cd_listed_in ct_listed_in), sl_listed_in⟩)
    (c_listed_in : PySem.W.codeIn K cd_listed_in "listed_in" = true)
    (k_listed_in : PySem.W.keepIn K (.ref f_listed_in) = true)
    (a_take_batch : PySem.W.nsIn K mainGlobals "take_batch" = some (some (.ref f_take_batch)))
    (l_take_batch : K.lookup f_take_batch = some ⟨oc_take_batch, od_take_batch, .func (PySem.W.fnOf "take_batch" "take_batch" (defArgs s_take_batch) (defBody s_take_batch) (defScope s_take_batch) .none kV_take_batch dc_take_batch pm_take_batch an_take_batch cd_take_batch ct_take_batch), sl_take_batch⟩)
    (c_take_batch : PySem.W.codeIn K cd_take_batch "take_batch" = true)
    (k_take_batch : PySem.W.keepIn K (.ref f_take_batch) = true)
    (a_write_batch : PySem.W.nsIn K mainGlobals "_write_batch" = some (some (.ref f_write_batch)))
    (l_write_batch : K.lookup f_write_batch = some ⟨oc_write_batch, od_write_batch, .func (PySem.W.fnOf "_write_batch" "_write_batch" (defArgs s_write_batch) (defBody s_write_batch) (defScope s_write_batch) .none kV_write_batch dc_write_batch pm_write_batch an_write_batch cd_write_batch ct_write_batch), sl_write_batch⟩)
    (c_write_batch : PySem.W.codeIn K cd_write_batch "_write_batch" = true)
    (k_write_batch : PySem.W.keepIn K (.ref f_write_batch) = true)
    (a_live_counts : PySem.W.nsIn K mainGlobals "live_counts" = some (some (.ref f_live_counts)))
    (l_live_counts : K.lookup f_live_counts = some ⟨oc_live_counts, od_live_counts, .func (PySem.W.fnOf "live_counts" "live_counts" (defArgs s_live_counts) (defBody s_live_counts) (defScope s_live_counts) .none kV_live_counts dc_live_counts pm_live_counts an_live_counts cd_live_counts ct_live_counts), sl_live_counts⟩)
    (c_live_counts : PySem.W.codeIn K cd_live_counts "live_counts" = true)
    (k_live_counts : PySem.W.keepIn K (.ref f_live_counts) = true)
    (a_ages : PySem.W.nsIn K mainGlobals "ages" = some (some (.ref f_ages)))
    (l_ages : K.lookup f_ages = some ⟨oc_ages, od_ages, .func (PySem.W.fnOf "ages" "ages" (defArgs s_ages) (defBody s_ages) (defScope s_ages) .none kV_ages dc_ages pm_ages an_ages cd_ages ct_ages), sl_ages⟩)
    (c_ages : PySem.W.codeIn K cd_ages "ages" = true)
    (k_ages : PySem.W.keepIn K (.ref f_ages) = true)
    (a_segment_rows : PySem.W.nsIn K mainGlobals "segment_rows" = some (some (.ref f_segment_rows)))
    (l_segment_rows : K.lookup f_segment_rows = some ⟨oc_segment_rows, od_segment_rows, .func (PySem.W.fnOf "segment_rows" "segment_rows" (defArgs s_segment_rows) (defBody s_segment_rows) (defScope s_segment_rows) .none kV_segment_rows dc_segment_rows pm_segment_rows an_segment_rows cd_segment_rows ct_segment_rows), sl_segment_rows⟩)
    (c_segment_rows : PySem.W.codeIn K cd_segment_rows "segment_rows" = true)
    (k_segment_rows : PySem.W.keepIn K (.ref f_segment_rows) = true)
    (a_candidates : PySem.W.nsIn K mainGlobals "candidates" = some (some (.ref f_candidates)))
    (l_candidates : K.lookup f_candidates = some ⟨oc_candidates, od_candidates, .func (PySem.W.fnOf "candidates" "candidates" (defArgs s_candidates) (defBody s_candidates) (defScope s_candidates) .none kV_candidates dc_candidates pm_candidates an_candidates cd_candidates ct_candidates), sl_candidates⟩)
    (c_candidates : PySem.W.codeIn K cd_candidates "candidates" = true)
    (k_candidates : PySem.W.keepIn K (.ref f_candidates) = true)
    (a_condition : PySem.W.nsIn K mainGlobals "_condition" = some (some (.ref f_condition)))
    (l_condition : K.lookup f_condition = some ⟨oc_condition, od_condition, .func (PySem.W.fnOf "_condition" "_condition" (defArgs s_condition) (defBody s_condition) (defScope s_condition) .none kV_condition dc_condition pm_condition an_condition cd_condition ct_condition), sl_condition⟩)
    (c_condition : PySem.W.codeIn K cd_condition "_condition" = true)
    (k_condition : PySem.W.keepIn K (.ref f_condition) = true)
    (a_Device___init : PySem.W.findIn K (.ref C_Device) "__init__" = some (some (.ref f_Device___init)))
    (i_Device___init : PySem.W.isFn K (.ref f_Device___init) = true)
    (l_Device___init : K.lookup f_Device___init = some ⟨oc_Device___init, od_Device___init, .func (PySem.W.fnOf "__init__" "Device.__init__" (defArgs s_Device___init) (defBody s_Device___init) (defScope s_Device___init) (.ref dT_Device___init) kV_Device___init dc_Device___init pm_Device___init an_Device___init cd_Device___init ct_Device___init), sl_Device___init⟩)
    (dl_Device___init : K.lookup dT_Device___init = some ⟨.type "tuple", dd_Device___init, .seq #[Value.none] dn_Device___init, dsl_Device___init⟩)
    (c_Device___init : PySem.W.codeIn K cd_Device___init "Device.__init__" = true)
    (k_Device___init : PySem.W.keepIn K (.ref f_Device___init) = true)
    (a_Device_read : PySem.W.findIn K (.ref C_Device) "read" = some (some (.ref f_Device_read)))
    (i_Device_read : PySem.W.isFn K (.ref f_Device_read) = true)
    (l_Device_read : K.lookup f_Device_read = some ⟨oc_Device_read, od_Device_read, .func (PySem.W.fnOf "read" "Device.read" (defArgs s_Device_read) (defBody s_Device_read) (defScope s_Device_read) .none kV_Device_read dc_Device_read pm_Device_read an_Device_read cd_Device_read ct_Device_read), sl_Device_read⟩)
    (c_Device_read : PySem.W.codeIn K cd_Device_read "Device.read" = true)
    (k_Device_read : PySem.W.keepIn K (.ref f_Device_read) = true)
    (a_Device_write : PySem.W.findIn K (.ref C_Device) "write" = some (some (.ref f_Device_write)))
    (i_Device_write : PySem.W.isFn K (.ref f_Device_write) = true)
    (l_Device_write : K.lookup f_Device_write = some ⟨oc_Device_write, od_Device_write, .func (PySem.W.fnOf "write" "Device.write" (defArgs s_Device_write) (defBody s_Device_write) (defScope s_Device_write) .none kV_Device_write dc_Device_write pm_Device_write an_Device_write cd_Device_write ct_Device_write), sl_Device_write⟩)
    (c_Device_write : PySem.W.codeIn K cd_Device_write "Device.write" = true)
    (k_Device_write : PySem.W.keepIn K (.ref f_Device_write) = true)
    (a_Device_barrier : PySem.W.findIn K (.ref C_Device) "barrier" = some (some (.ref f_Device_barrier)))
    (i_Device_barrier : PySem.W.isFn K (.ref f_Device_barrier) = true)
    (l_Device_barrier : K.lookup f_Device_barrier = some ⟨oc_Device_barrier, od_Device_barrier, .func (PySem.W.fnOf "barrier" "Device.barrier" (defArgs s_Device_barrier) (defBody s_Device_barrier) (defScope s_Device_barrier) .none kV_Device_barrier dc_Device_barrier pm_Device_barrier an_Device_barrier cd_Device_barrier ct_Device_barrier), sl_Device_barrier⟩)
    (c_Device_barrier : PySem.W.codeIn K cd_Device_barrier "Device.barrier" = true)
    (k_Device_barrier : PySem.W.keepIn K (.ref f_Device_barrier) = true)
    (a_Device_pending : PySem.W.findIn K (.ref C_Device) "pending" = some (some (.ref f_Device_pending)))
    (i_Device_pending : PySem.W.isFn K (.ref f_Device_pending) = true)
    (l_Device_pending : K.lookup f_Device_pending = some ⟨oc_Device_pending, od_Device_pending, .func (PySem.W.fnOf "pending" "Device.pending" (defArgs s_Device_pending) (defBody s_Device_pending) (defScope s_Device_pending) .none kV_Device_pending dc_Device_pending pm_Device_pending an_Device_pending cd_Device_pending ct_Device_pending), sl_Device_pending⟩)
    (c_Device_pending : PySem.W.codeIn K cd_Device_pending "Device.pending" = true)
    (k_Device_pending : PySem.W.keepIn K (.ref f_Device_pending) = true)
    (a_Device_written_blocks : PySem.W.findIn K (.ref C_Device) "written_blocks" = some (some (.ref f_Device_written_blocks)))
    (i_Device_written_blocks : PySem.W.isFn K (.ref f_Device_written_blocks) = true)
    (l_Device_written_blocks : K.lookup f_Device_written_blocks = some ⟨oc_Device_written_blocks, od_Device_written_blocks, .func (PySem.W.fnOf "written_blocks" "Device.written_blocks" (defArgs s_Device_written_blocks) (defBody s_Device_written_blocks) (defScope s_Device_written_blocks) .none kV_Device_written_blocks dc_Device_written_blocks pm_Device_written_blocks an_Device_written_blocks cd_Device_written_blocks ct_Device_written_blocks), sl_Device_written_blocks⟩)
    (c_Device_written_blocks : PySem.W.codeIn K cd_Device_written_blocks "Device.written_blocks" = true)
    (k_Device_written_blocks : PySem.W.keepIn K (.ref f_Device_written_blocks) = true)
    (a_Device__takes_place : PySem.W.findIn K (.ref C_Device) "_takes_place" = some (some (.ref f_Device__takes_place)))
    (i_Device__takes_place : PySem.W.isFn K (.ref f_Device__takes_place) = true)
    (l_Device__takes_place : K.lookup f_Device__takes_place = some ⟨oc_Device__takes_place, od_Device__takes_place, .func (PySem.W.fnOf "_takes_place" "Device._takes_place" (defArgs s_Device__takes_place) (defBody s_Device__takes_place) (defScope s_Device__takes_place) .none kV_Device__takes_place dc_Device__takes_place pm_Device__takes_place an_Device__takes_place cd_Device__takes_place ct_Device__takes_place), sl_Device__takes_place⟩)
    (c_Device__takes_place : PySem.W.codeIn K cd_Device__takes_place "Device._takes_place" = true)
    (k_Device__takes_place : PySem.W.keepIn K (.ref f_Device__takes_place) = true)
    (a_put_block : PySem.W.nsIn K mainGlobals "_put_block" = some (some (.ref f_put_block)))
    (l_put_block : K.lookup f_put_block = some ⟨oc_put_block, od_put_block, .func (PySem.W.fnOf "_put_block" "_put_block" (defArgs s_put_block) (defBody s_put_block) (defScope s_put_block) .none kV_put_block dc_put_block pm_put_block an_put_block cd_put_block ct_put_block), sl_put_block⟩)
    (c_put_block : PySem.W.codeIn K cd_put_block "_put_block" = true)
    (k_put_block : PySem.W.keepIn K (.ref f_put_block) = true)
    (a_filled : PySem.W.nsIn K mainGlobals "filled" = some (some (.ref f_filled)))
    (l_filled : K.lookup f_filled = some ⟨oc_filled, od_filled, .func (PySem.W.fnOf "filled" "filled" (defArgs s_filled) (defBody s_filled) (defScope s_filled) .none kV_filled dc_filled pm_filled an_filled cd_filled ct_filled), sl_filled⟩)
    (c_filled : PySem.W.codeIn K cd_filled "filled" = true)
    (k_filled : PySem.W.keepIn K (.ref f_filled) = true)
    (a_pieces : PySem.W.nsIn K mainGlobals "pieces" = some (some (.ref f_pieces)))
    (l_pieces : K.lookup f_pieces = some ⟨oc_pieces, od_pieces, .func (PySem.W.fnOf "pieces" "pieces" (defArgs s_pieces) (defBody s_pieces) (defScope s_pieces) .none kV_pieces dc_pieces pm_pieces an_pieces cd_pieces ct_pieces), sl_pieces⟩)
    (c_pieces : PySem.W.codeIn K cd_pieces "pieces" = true)
    (k_pieces : PySem.W.keepIn K (.ref f_pieces) = true)
    (a_checkpoint_numbers : PySem.W.nsIn K mainGlobals "checkpoint_numbers" = some (some (.ref f_checkpoint_numbers)))
    (l_checkpoint_numbers : K.lookup f_checkpoint_numbers = some ⟨oc_checkpoint_numbers, od_checkpoint_numbers, .func (PySem.W.fnOf "checkpoint_numbers" "checkpoint_numbers" (defArgs s_checkpoint_numbers) (defBody s_checkpoint_numbers) (defScope s_checkpoint_numbers) .none kV_checkpoint_numbers dc_checkpoint_numbers pm_checkpoint_numbers an_checkpoint_numbers cd_checkpoint_numbers ct_checkpoint_numbers), sl_checkpoint_numbers⟩)
    (c_checkpoint_numbers : PySem.W.codeIn K cd_checkpoint_numbers "checkpoint_numbers" = true)
    (k_checkpoint_numbers : PySem.W.keepIn K (.ref f_checkpoint_numbers) = true)
    (a_write_checkpoint : PySem.W.nsIn K mainGlobals "write_checkpoint" = some (some (.ref f_write_checkpoint)))
    (l_write_checkpoint : K.lookup f_write_checkpoint = some ⟨oc_write_checkpoint, od_write_checkpoint, .func (PySem.W.fnOf "write_checkpoint" "write_checkpoint" (defArgs s_write_checkpoint) (defBody s_write_checkpoint) (defScope s_write_checkpoint) .none kV_write_checkpoint dc_write_checkpoint pm_write_checkpoint an_write_checkpoint cd_write_checkpoint ct_write_checkpoint), sl_write_checkpoint⟩)
    (c_write_checkpoint : PySem.W.codeIn K cd_write_checkpoint "write_checkpoint" = true)
    (k_write_checkpoint : PySem.W.keepIn K (.ref f_write_checkpoint) = true)
    (a_slot_numbers : PySem.W.nsIn K mainGlobals "_slot_numbers" = some (some (.ref f_slot_numbers)))
    (l_slot_numbers : K.lookup f_slot_numbers = some ⟨oc_slot_numbers, od_slot_numbers, .func (PySem.W.fnOf "_slot_numbers" "_slot_numbers" (defArgs s_slot_numbers) (defBody s_slot_numbers) (defScope s_slot_numbers) .none kV_slot_numbers dc_slot_numbers pm_slot_numbers an_slot_numbers cd_slot_numbers ct_slot_numbers), sl_slot_numbers⟩)
    (c_slot_numbers : PySem.W.codeIn K cd_slot_numbers "_slot_numbers" = true)
    (k_slot_numbers : PySem.W.keepIn K (.ref f_slot_numbers) = true)
    (a_segments_to_free : PySem.W.nsIn K mainGlobals "_segments_to_free" = some (some (.ref f_segments_to_free)))
    (l_segments_to_free : K.lookup f_segments_to_free = some ⟨oc_segments_to_free, od_segments_to_free, .func (PySem.W.fnOf "_segments_to_free" "_segments_to_free" (defArgs s_segments_to_free) (defBody s_segments_to_free) (defScope s_segments_to_free) .none kV_segments_to_free dc_segments_to_free pm_segments_to_free an_segments_to_free cd_segments_to_free ct_segments_to_free), sl_segments_to_free⟩)
    (c_segments_to_free : PySem.W.codeIn K cd_segments_to_free "_segments_to_free" = true)
    (k_segments_to_free : PySem.W.keepIn K (.ref f_segments_to_free) = true)
    (a_new_log : PySem.W.nsIn K mainGlobals "new_log" = some (some (.ref f_new_log)))
    (l_new_log : K.lookup f_new_log = some ⟨oc_new_log, od_new_log, .func (PySem.W.fnOf "new_log" "new_log" (defArgs s_new_log) (defBody s_new_log) (defScope s_new_log) .none kV_new_log dc_new_log pm_new_log an_new_log cd_new_log ct_new_log), sl_new_log⟩)
    (c_new_log : PySem.W.codeIn K cd_new_log "new_log" = true)
    (k_new_log : PySem.W.keepIn K (.ref f_new_log) = true)
    (a_victims : PySem.W.nsIn K mainGlobals "victims" = some (some (.ref f_victims)))
    (l_victims : K.lookup f_victims = some ⟨oc_victims, od_victims, .func (PySem.W.fnOf "victims" "victims" (defArgs s_victims) (defBody s_victims) (defScope s_victims) .none kV_victims dc_victims pm_victims an_victims cd_victims ct_victims), sl_victims⟩)
    (c_victims : PySem.W.codeIn K cd_victims "victims" = true)
    (k_victims : PySem.W.keepIn K (.ref f_victims) = true)
    (a_cargo : PySem.W.nsIn K mainGlobals "cargo" = some (some (.ref f_cargo)))
    (l_cargo : K.lookup f_cargo = some ⟨oc_cargo, od_cargo, .func (PySem.W.fnOf "cargo" "cargo" (defArgs s_cargo) (defBody s_cargo) (defScope s_cargo) .none kV_cargo dc_cargo pm_cargo an_cargo cd_cargo ct_cargo), sl_cargo⟩)
    (c_cargo : PySem.W.codeIn K cd_cargo "cargo" = true)
    (k_cargo : PySem.W.keepIn K (.ref f_cargo) = true)
    (a_fill : PySem.W.nsIn K mainGlobals "fill" = some (some (.ref f_fill)))
    (l_fill : K.lookup f_fill = some ⟨oc_fill, od_fill, .func (PySem.W.fnOf "fill" "fill" (defArgs s_fill) (defBody s_fill) (defScope s_fill) .none kV_fill dc_fill pm_fill an_fill cd_fill ct_fill), sl_fill⟩)
    (c_fill : PySem.W.codeIn K cd_fill "fill" = true)
    (k_fill : PySem.W.keepIn K (.ref f_fill) = true)
    (a_law_row : PySem.W.nsIn K mainGlobals "_law_row" = some (some (.ref f_law_row)))
    (l_law_row : K.lookup f_law_row = some ⟨oc_law_row, od_law_row, .func (PySem.W.fnOf "_law_row" "_law_row" (defArgs s_law_row) (defBody s_law_row) (defScope s_law_row) .none kV_law_row dc_law_row pm_law_row an_law_row cd_law_row ct_law_row), sl_law_row⟩)
    (c_law_row : PySem.W.codeIn K cd_law_row "_law_row" = true)
    (k_law_row : PySem.W.keepIn K (.ref f_law_row) = true)
    (a_law_digits : PySem.W.nsIn K mainGlobals "_law_digits" = some (some (.ref f_law_digits)))
    (l_law_digits : K.lookup f_law_digits = some ⟨oc_law_digits, od_law_digits, .func (PySem.W.fnOf "_law_digits" "_law_digits" (defArgs s_law_digits) (defBody s_law_digits) (defScope s_law_digits) .none kV_law_digits dc_law_digits pm_law_digits an_law_digits cd_law_digits ct_law_digits), sl_law_digits⟩)
    (c_law_digits : PySem.W.codeIn K cd_law_digits "_law_digits" = true)
    (k_law_digits : PySem.W.keepIn K (.ref f_law_digits) = true)
    (a_law_layout : PySem.W.nsIn K mainGlobals "_law_layout" = some (some (.ref f_law_layout)))
    (l_law_layout : K.lookup f_law_layout = some ⟨oc_law_layout, od_law_layout, .func (PySem.W.fnOf "_law_layout" "_law_layout" (defArgs s_law_layout) (defBody s_law_layout) (defScope s_law_layout) .none kV_law_layout dc_law_layout pm_law_layout an_law_layout cd_law_layout ct_law_layout), sl_law_layout⟩)
    (c_law_layout : PySem.W.codeIn K cd_law_layout "_law_layout" = true)
    (k_law_layout : PySem.W.keepIn K (.ref f_law_layout) = true)
    (a_law_after : PySem.W.nsIn K mainGlobals "_law_after" = some (some (.ref f_law_after)))
    (l_law_after : K.lookup f_law_after = some ⟨oc_law_after, od_law_after, .func (PySem.W.fnOf "_law_after" "_law_after" (defArgs s_law_after) (defBody s_law_after) (defScope s_law_after) .none kV_law_after dc_law_after pm_law_after an_law_after cd_law_after ct_law_after), sl_law_after⟩)
    (c_law_after : PySem.W.codeIn K cd_law_after "_law_after" = true)
    (k_law_after : PySem.W.keepIn K (.ref f_law_after) = true)
    (a_law_payloads : PySem.W.nsIn K mainGlobals "_law_payloads" = some (some (.ref f_law_payloads)))
    (l_law_payloads : K.lookup f_law_payloads = some ⟨oc_law_payloads, od_law_payloads, .func (PySem.W.fnOf "_law_payloads" "_law_payloads" (defArgs s_law_payloads) (defBody s_law_payloads) (defScope s_law_payloads) .none kV_law_payloads dc_law_payloads pm_law_payloads an_law_payloads cd_law_payloads ct_law_payloads), sl_law_payloads⟩)
    (c_law_payloads : PySem.W.codeIn K cd_law_payloads "_law_payloads" = true)
    (k_law_payloads : PySem.W.keepIn K (.ref f_law_payloads) = true)
    (a_law_ids : PySem.W.nsIn K mainGlobals "_law_ids" = some (some (.ref f_law_ids)))
    (l_law_ids : K.lookup f_law_ids = some ⟨oc_law_ids, od_law_ids, .func (PySem.W.fnOf "_law_ids" "_law_ids" (defArgs s_law_ids) (defBody s_law_ids) (defScope s_law_ids) .none kV_law_ids dc_law_ids pm_law_ids an_law_ids cd_law_ids ct_law_ids), sl_law_ids⟩)
    (c_law_ids : PySem.W.codeIn K cd_law_ids "_law_ids" = true)
    (k_law_ids : PySem.W.keepIn K (.ref f_law_ids) = true)
    (a_law_used : PySem.W.nsIn K mainGlobals "_law_used" = some (some (.ref f_law_used)))
    (l_law_used : K.lookup f_law_used = some ⟨oc_law_used, od_law_used, .func (PySem.W.fnOf "_law_used" "_law_used" (defArgs s_law_used) (defBody s_law_used) (defScope s_law_used) .none kV_law_used dc_law_used pm_law_used an_law_used cd_law_used ct_law_used), sl_law_used⟩)
    (c_law_used : PySem.W.codeIn K cd_law_used "_law_used" = true)
    (k_law_used : PySem.W.keepIn K (.ref f_law_used) = true)
    (a_law_live : PySem.W.nsIn K mainGlobals "_law_live" = some (some (.ref f_law_live)))
    (l_law_live : K.lookup f_law_live = some ⟨oc_law_live, od_law_live, .func (PySem.W.fnOf "_law_live" "_law_live" (defArgs s_law_live) (defBody s_law_live) (defScope s_law_live) .none kV_law_live dc_law_live pm_law_live an_law_live cd_law_live ct_law_live), sl_law_live⟩)
    (c_law_live : PySem.W.codeIn K cd_law_live "_law_live" = true)
    (k_law_live : PySem.W.keepIn K (.ref f_law_live) = true)
    (a_law_deed : PySem.W.nsIn K mainGlobals "_law_deed" = some (some (.ref f_law_deed)))
    (l_law_deed : K.lookup f_law_deed = some ⟨oc_law_deed, od_law_deed, .func (PySem.W.fnOf "_law_deed" "_law_deed" (defArgs s_law_deed) (defBody s_law_deed) (defScope s_law_deed) .none kV_law_deed dc_law_deed pm_law_deed an_law_deed cd_law_deed ct_law_deed), sl_law_deed⟩)
    (c_law_deed : PySem.W.codeIn K cd_law_deed "_law_deed" = true)
    (k_law_deed : PySem.W.keepIn K (.ref f_law_deed) = true)
    (a_law_rows : PySem.W.nsIn K mainGlobals "_law_rows" = some (some (.ref f_law_rows)))
    (l_law_rows : K.lookup f_law_rows = some ⟨oc_law_rows, od_law_rows, .func (PySem.W.fnOf "_law_rows" "_law_rows" (defArgs s_law_rows) (defBody s_law_rows) (defScope s_law_rows) .none kV_law_rows dc_law_rows pm_law_rows an_law_rows cd_law_rows ct_law_rows), sl_law_rows⟩)
    (c_law_rows : PySem.W.codeIn K cd_law_rows "_law_rows" = true)
    (k_law_rows : PySem.W.keepIn K (.ref f_law_rows) = true)
    (a_law_candidates : PySem.W.nsIn K mainGlobals "_law_candidates" = some (some (.ref f_law_candidates)))
    (l_law_candidates : K.lookup f_law_candidates = some ⟨oc_law_candidates, od_law_candidates, .func (PySem.W.fnOf "_law_candidates" "_law_candidates" (defArgs s_law_candidates) (defBody s_law_candidates) (defScope s_law_candidates) .none kV_law_candidates dc_law_candidates pm_law_candidates an_law_candidates cd_law_candidates ct_law_candidates), sl_law_candidates⟩)
    (c_law_candidates : PySem.W.codeIn K cd_law_candidates "_law_candidates" = true)
    (k_law_candidates : PySem.W.keepIn K (.ref f_law_candidates) = true)
    (a_law : PySem.W.nsIn K mainGlobals "law" = some (some (.ref f_law)))
    (l_law : K.lookup f_law = some ⟨oc_law, od_law, .func (PySem.W.fnOf "law" "law" (defArgs s_law) (defBody s_law) (defScope s_law) .none kV_law dc_law pm_law an_law cd_law ct_law), sl_law⟩)
    (c_law : PySem.W.codeIn K cd_law "law" = true)
    (k_law : PySem.W.keepIn K (.ref f_law) = true)
    (q_BLOCK_SIZES : PySem.W.nsIn K mainGlobals "BLOCK_SIZES" = some (some (.ref k_BLOCK_SIZES)))
    (y_BLOCK_SIZES : K.lookup k_BLOCK_SIZES = some ⟨.type "tuple", yd_BLOCK_SIZES, .seq #[.int 64 yt_BLOCK_SIZES_0, .int 128 yt_BLOCK_SIZES_1, .int 256 yt_BLOCK_SIZES_2] yn_BLOCK_SIZES, ys_BLOCK_SIZES⟩)
    (q_COMMIT : PySem.W.nsIn K mainGlobals "COMMIT" = some (some (.int 1 t_COMMIT)))
    (q_DATA : PySem.W.nsIn K mainGlobals "DATA" = some (some (.int 3 t_DATA)))
    (q_MOVE : PySem.W.nsIn K mainGlobals "MOVE" = some (some (.int 2 t_MOVE)))
    (q_NODE : PySem.W.nsIn K mainGlobals "NODE" = some (some (.int 4 t_NODE)))
    (q_PART : PySem.W.nsIn K mainGlobals "PART" = some (some (.int 5 t_PART)))
    (q_SUMMARY_HEAD : PySem.W.nsIn K mainGlobals "SUMMARY_HEAD" = some (some (.int 16 t_SUMMARY_HEAD)))
    (n_enumerate : PySem.W.nsIn K mainGlobals "enumerate" = some none)
    (n_int : PySem.W.nsIn K mainGlobals "int" = some none)
    (n_isinstance : PySem.W.nsIn K mainGlobals "isinstance" = some none)
    (n_len : PySem.W.nsIn K mainGlobals "len" = some none)
    (n_list : PySem.W.nsIn K mainGlobals "list" = some none)
    (n_max : PySem.W.nsIn K mainGlobals "max" = some none)
    (n_range : PySem.W.nsIn K mainGlobals "range" = some none)
    (n_set : PySem.W.nsIn K mainGlobals "set" = some none)
    (n_sorted : PySem.W.nsIn K mainGlobals "sorted" = some none)
    (n_tuple : PySem.W.nsIn K mainGlobals "tuple" = some none)
    (n_zip : PySem.W.nsIn K mainGlobals "zip" = some none)
    : ∃ fd : FuncData, (∀ (s : Shared) (v : Value), BindsTo s fd ⟨[v], []⟩ [("script", v)]) ∧ ∀ base : Heap, K.In base → base.Ns mainGlobals mg → FnOk l.prog w K mg base CX0 8 fa fd ["script"] (spLawK K) := by
  have e := hfa.symm.trans (PySem.W.mg_of X G a_law)
  cases e
  have F_Layout___init := fun_mk (st := s_Layout___init) l_Layout___init c_Layout___init k_Layout___init
  have b_Layout___init := F_Layout___init.binds (ps := ["self", "segments", "segment_blocks", "block_size"]) fun _ _ _ _ _ _ us hl => match us, hl with | [_, _, _, _], _ => rfl
  have F_address_at := fun_mk (st := s_address_at) l_address_at c_address_at k_address_at
  have b_address_at := F_address_at.binds (ps := ["layout", "segment", "place"]) fun _ _ _ _ _ _ us hl => match us, hl with | [_, _, _], _ => rfl
  have F_segment_of := fun_mk (st := s_segment_of) l_segment_of c_segment_of k_segment_of
  have b_segment_of := F_segment_of.binds (ps := ["layout", "address"]) fun _ _ _ _ _ _ us hl => match us, hl with | [_, _], _ => rfl
  have F_region_start := fun_mk (st := s_region_start) l_region_start c_region_start k_region_start
  have b_region_start := F_region_start.binds (ps := ["layout", "region"]) fun _ _ _ _ _ _ us hl => match us, hl with | [_, _], _ => rfl
  have F_parts_of := fun_mk (st := s_parts_of) l_parts_of c_parts_of k_parts_of
  have b_parts_of := F_parts_of.binds (ps := ["number", "size"]) fun _ _ _ _ _ _ us hl => match us, hl with | [_, _], _ => rfl
  have F_is_payload := fun_mk (st := s_is_payload) l_is_payload c_is_payload k_is_payload
  have b_is_payload := F_is_payload.binds (ps := ["block"]) fun _ _ _ _ _ _ us hl => match us, hl with | [_], _ => rfl
  have F_payload_of := fun_mk (st := s_payload_of) l_payload_of c_payload_of k_payload_of
  have b_payload_of := F_payload_of.binds (ps := ["block"]) fun _ _ _ _ _ _ us hl => match us, hl with | [_], _ => rfl
  have F_stamped := fun_mk (st := s_stamped) l_stamped c_stamped k_stamped
  have b_stamped := F_stamped.binds (ps := ["payload", "sequence", "rank"]) fun _ _ _ _ _ _ us hl => match us, hl with | [_, _, _], _ => rfl
  have F_Counts___init := fun_mk (st := s_Counts___init) l_Counts___init c_Counts___init k_Counts___init
  have b_Counts___init := F_Counts___init.binds (ps := ["self"]) fun _ _ _ _ _ _ us hl => match us, hl with | [_], _ => rfl
  have F_empty_table := fun_mk (st := s_empty_table) l_empty_table c_empty_table k_empty_table
  have b_empty_table := F_empty_table.binds (ps := ["layout"]) fun _ _ _ _ _ _ us hl => match us, hl with | [_], _ => rfl
  have F_copy_of_table := fun_mk (st := s_copy_of_table) l_copy_of_table c_copy_of_table k_copy_of_table
  have b_copy_of_table := F_copy_of_table.binds (ps := ["table"]) fun _ _ _ _ _ _ us hl => match us, hl with | [_], _ => rfl
  have F_commit_to_table := fun_mk (st := s_commit_to_table) l_commit_to_table c_commit_to_table k_commit_to_table
  have b_commit_to_table := F_commit_to_table.binds (ps := ["table", "start", "ids", "used"]) fun _ _ _ _ _ _ us hl => match us, hl with | [_, _, _, _], _ => rfl
  have F_slots_after := fun_mk (st := s_slots_after) l_slots_after c_slots_after k_slots_after
  have b_slots_after := F_slots_after.binds (ps := ["slots", "table", "action"]) fun _ _ _ _ _ _ us hl => match us, hl with | [_, _, _], _ => rfl
  have F_move_in_table := fun_mk (st := s_move_in_table) l_move_in_table c_move_in_table k_move_in_table
  have b_move_in_table := F_move_in_table.binds (ps := ["table", "start", "addresses"]) fun _ _ _ _ _ _ us hl => match us, hl with | [_, _, _], _ => rfl
  have F_Log___init := fun_mk (st := s_Log___init) l_Log___init c_Log___init k_Log___init
  have b_Log___init := F_Log___init.binds (ps := ["self", "device"]) fun _ _ _ _ _ _ us hl => match us, hl with | [_, _], _ => rfl
  have F_payload_at := fun_mk (st := s_payload_at) l_payload_at c_payload_at k_payload_at
  have b_payload_at := F_payload_at.binds (ps := ["log", "address"]) fun _ _ _ _ _ _ us hl => match us, hl with | [_, _], _ => rfl
  have F_live_addresses := fun_mk (st := s_live_addresses) l_live_addresses c_live_addresses k_live_addresses
  have b_live_addresses := F_live_addresses.binds (ps := ["log"]) fun _ _ _ _ _ _ us hl => match us, hl with | [_], _ => rfl
  have F_append_commit := fun_mk (st := s_append_commit) l_append_commit c_append_commit k_append_commit
  have b_append_commit := F_append_commit.binds (ps := ["log", "ids", "payloads", "used", "action"]) fun _ _ _ _ _ _ us hl => match us, hl with | [_, _, _, _, _], _ => rfl
  have F_append_move := fun_mk (st := s_append_move) l_append_move c_append_move k_append_move
  have b_append_move := F_append_move.binds (ps := ["log", "addresses"]) fun _ _ _ _ _ _ us hl => match us, hl with | [_, _], _ => rfl
  have F_sync_log := fun_mk (st := s_sync_log) l_sync_log c_sync_log k_sync_log
  have b_sync_log := F_sync_log.binds (ps := ["log"]) fun _ _ _ _ _ _ us hl => match us, hl with | [_], _ => rfl
  have F_enter_next_segment := fun_mk (st := s_enter_next_segment) l_enter_next_segment c_enter_next_segment k_enter_next_segment
  have b_enter_next_segment := F_enter_next_segment.binds (ps := ["log"]) fun _ _ _ _ _ _ us hl => match us, hl with | [_], _ => rfl
  have F_listed_in := fun_mk (st := s_listed_in) l_listed_in c_listed_in k_listed_in
  have b_listed_in := F_listed_in.binds (ps := ["summary"]) fun _ _ _ _ _ _ us hl => match us, hl with | [_], _ => rfl
  have F_take_batch := fun_mk (st := s_take_batch) l_take_batch c_take_batch k_take_batch
  have b_take_batch := F_take_batch.binds (ps := ["log", "summary"]) fun _ _ _ _ _ _ us hl => match us, hl with | [_, _], _ => rfl
  have F_write_batch := fun_mk (st := s_write_batch) l_write_batch c_write_batch k_write_batch
  have b_write_batch := F_write_batch.binds (ps := ["log", "summary", "payloads"]) fun _ _ _ _ _ _ us hl => match us, hl with | [_, _, _], _ => rfl
  have F_live_counts := fun_mk (st := s_live_counts) l_live_counts c_live_counts k_live_counts
  have b_live_counts := F_live_counts.binds (ps := ["log"]) fun _ _ _ _ _ _ us hl => match us, hl with | [_], _ => rfl
  have F_ages := fun_mk (st := s_ages) l_ages c_ages k_ages
  have b_ages := F_ages.binds (ps := ["log"]) fun _ _ _ _ _ _ us hl => match us, hl with | [_], _ => rfl
  have F_segment_rows := fun_mk (st := s_segment_rows) l_segment_rows c_segment_rows k_segment_rows
  have b_segment_rows := F_segment_rows.binds (ps := ["log"]) fun _ _ _ _ _ _ us hl => match us, hl with | [_], _ => rfl
  have F_candidates := fun_mk (st := s_candidates) l_candidates c_candidates k_candidates
  have b_candidates := F_candidates.binds (ps := ["log"]) fun _ _ _ _ _ _ us hl => match us, hl with | [_], _ => rfl
  have F_condition := fun_mk (st := s_condition) l_condition c_condition k_condition
  have b_condition := F_condition.binds (ps := ["log", "segment"]) fun _ _ _ _ _ _ us hl => match us, hl with | [_, _], _ => rfl
  have F_Device___init : FunD K "__init__" "Device.__init__" (defArgs s_Device___init) (defBody s_Device___init) (defScope s_Device___init) [V.non] [] f_Device___init _ := ⟨⟨_, _, _, _, _, _, _, _, _, _, rfl, l_Device___init, c_Device___init, .inr ⟨by simp, _, _, _, _, rfl, dl_Device___init, rfl, (.cons rfl .nil)⟩, .inl rfl⟩, k_Device___init⟩
  obtain ⟨ds_Device___init_2, v_Device___init_2, b_Device___init_2⟩ := F_Device___init.binds1 (ps := ["self", "layout", "blocks"]) 2 0 (by simp) rfl fun _ _ _ _ _ _ _ us its hl hi => match us, its, hl, hi with | [_, _], [_], _, _ => ⟨_, rfl, rfl⟩
  obtain ⟨ds_Device___init_3, v_Device___init_3, b_Device___init_3⟩ := F_Device___init.binds1 (ps := ["self", "layout", "blocks"]) 3 1 (by simp) rfl fun _ _ _ _ _ _ _ us its hl hi => match us, its, hl, hi with | [_, _, _], [_], _, _ => ⟨_, rfl, rfl⟩
  cases v_Device___init_3
  have F_Device_read := fun_mk (st := s_Device_read) l_Device_read c_Device_read k_Device_read
  have b_Device_read := F_Device_read.binds (ps := ["self", "address"]) fun _ _ _ _ _ _ us hl => match us, hl with | [_, _], _ => rfl
  have F_Device_write := fun_mk (st := s_Device_write) l_Device_write c_Device_write k_Device_write
  have b_Device_write := F_Device_write.binds (ps := ["self", "address", "block"]) fun _ _ _ _ _ _ us hl => match us, hl with | [_, _, _], _ => rfl
  have F_Device_barrier := fun_mk (st := s_Device_barrier) l_Device_barrier c_Device_barrier k_Device_barrier
  have b_Device_barrier := F_Device_barrier.binds (ps := ["self"]) fun _ _ _ _ _ _ us hl => match us, hl with | [_], _ => rfl
  have F_Device_pending := fun_mk (st := s_Device_pending) l_Device_pending c_Device_pending k_Device_pending
  have b_Device_pending := F_Device_pending.binds (ps := ["self"]) fun _ _ _ _ _ _ us hl => match us, hl with | [_], _ => rfl
  have F_Device_written_blocks := fun_mk (st := s_Device_written_blocks) l_Device_written_blocks c_Device_written_blocks k_Device_written_blocks
  have b_Device_written_blocks := F_Device_written_blocks.binds (ps := ["self"]) fun _ _ _ _ _ _ us hl => match us, hl with | [_], _ => rfl
  have F_Device__takes_place := fun_mk (st := s_Device__takes_place) l_Device__takes_place c_Device__takes_place k_Device__takes_place
  have b_Device__takes_place := F_Device__takes_place.binds (ps := ["self"]) fun _ _ _ _ _ _ us hl => match us, hl with | [_], _ => rfl
  have F_put_block := fun_mk (st := s_put_block) l_put_block c_put_block k_put_block
  have b_put_block := F_put_block.binds (ps := ["blocks", "address", "block"]) fun _ _ _ _ _ _ us hl => match us, hl with | [_, _, _], _ => rfl
  have F_filled := fun_mk (st := s_filled) l_filled c_filled k_filled
  have b_filled := F_filled.binds (ps := ["numbers", "count"]) fun _ _ _ _ _ _ us hl => match us, hl with | [_, _], _ => rfl
  have F_pieces := fun_mk (st := s_pieces) l_pieces c_pieces k_pieces
  have b_pieces := F_pieces.binds (ps := ["numbers", "size"]) fun _ _ _ _ _ _ us hl => match us, hl with | [_, _], _ => rfl
  have F_checkpoint_numbers := fun_mk (st := s_checkpoint_numbers) l_checkpoint_numbers c_checkpoint_numbers k_checkpoint_numbers
  have b_checkpoint_numbers := F_checkpoint_numbers.binds (ps := ["log"]) fun _ _ _ _ _ _ us hl => match us, hl with | [_], _ => rfl
  have F_write_checkpoint := fun_mk (st := s_write_checkpoint) l_write_checkpoint c_write_checkpoint k_write_checkpoint
  have b_write_checkpoint := F_write_checkpoint.binds (ps := ["log"]) fun _ _ _ _ _ _ us hl => match us, hl with | [_], _ => rfl
  have F_slot_numbers := fun_mk (st := s_slot_numbers) l_slot_numbers c_slot_numbers k_slot_numbers
  have b_slot_numbers := F_slot_numbers.binds (ps := ["layout", "slot"]) fun _ _ _ _ _ _ us hl => match us, hl with | [_, _], _ => rfl
  have F_segments_to_free := fun_mk (st := s_segments_to_free) l_segments_to_free c_segments_to_free k_segments_to_free
  have b_segments_to_free := F_segments_to_free.binds (ps := ["log"]) fun _ _ _ _ _ _ us hl => match us, hl with | [_], _ => rfl
  have F_new_log := fun_mk (st := s_new_log) l_new_log c_new_log k_new_log
  have b_new_log := F_new_log.binds (ps := ["device"]) fun _ _ _ _ _ _ us hl => match us, hl with | [_], _ => rfl
  have F_victims := fun_mk (st := s_victims) l_victims c_victims k_victims
  have b_victims := F_victims.binds (ps := ["log", "order"]) fun _ _ _ _ _ _ us hl => match us, hl with | [_, _], _ => rfl
  have F_cargo := fun_mk (st := s_cargo) l_cargo c_cargo k_cargo
  have b_cargo := F_cargo.binds (ps := ["log", "order"]) fun _ _ _ _ _ _ us hl => match us, hl with | [_, _], _ => rfl
  have F_fill := fun_mk (st := s_fill) l_fill c_fill k_fill
  have b_fill := F_fill.binds (ps := ["log", "order"]) fun _ _ _ _ _ _ us hl => match us, hl with | [_, _], _ => rfl
  have F_law_row := fun_mk (st := s_law_row) l_law_row c_law_row k_law_row
  have b_law_row := F_law_row.binds (ps := ["script", "k"]) fun _ _ _ _ _ _ us hl => match us, hl with | [_, _], _ => rfl
  have F_law_digits := fun_mk (st := s_law_digits) l_law_digits c_law_digits k_law_digits
  have b_law_digits := F_law_digits.binds (ps := ["row", "sizes"]) fun _ _ _ _ _ _ us hl => match us, hl with | [_, _], _ => rfl
  have F_law_layout := fun_mk (st := s_law_layout) l_law_layout c_law_layout k_law_layout
  have b_law_layout := F_law_layout.binds (ps := ["row"]) fun _ _ _ _ _ _ us hl => match us, hl with | [_], _ => rfl
  have F_law_after := fun_mk (st := s_law_after) l_law_after c_law_after k_law_after
  have b_law_after := F_law_after.binds (ps := ["state", "ids", "payloads", "used", "action"]) fun _ _ _ _ _ _ us hl => match us, hl with | [_, _, _, _, _], _ => rfl
  have F_law_payloads := fun_mk (st := s_law_payloads) l_law_payloads c_law_payloads k_law_payloads
  have b_law_payloads := F_law_payloads.binds (ps := ["layout", "row", "count"]) fun _ _ _ _ _ _ us hl => match us, hl with | [_, _, _], _ => rfl
  have F_law_ids := fun_mk (st := s_law_ids) l_law_ids c_law_ids k_law_ids
  have b_law_ids := F_law_ids.binds (ps := ["layout", "row"]) fun _ _ _ _ _ _ us hl => match us, hl with | [_, _], _ => rfl
  have F_law_used := fun_mk (st := s_law_used) l_law_used c_law_used k_law_used
  have b_law_used := F_law_used.binds (ps := ["layout", "known", "ids", "drop"]) fun _ _ _ _ _ _ us hl => match us, hl with | [_, _, _, _], _ => rfl
  have F_law_live := fun_mk (st := s_law_live) l_law_live c_law_live k_law_live
  have b_law_live := F_law_live.binds (ps := ["log"]) fun _ _ _ _ _ _ us hl => match us, hl with | [_], _ => rfl
  have F_law_deed := fun_mk (st := s_law_deed) l_law_deed c_law_deed k_law_deed
  have b_law_deed := F_law_deed.binds (ps := ["layout", "log", "state", "script", "k"]) fun _ _ _ _ _ _ us hl => match us, hl with | [_, _, _, _, _], _ => rfl
  have F_law_rows := fun_mk (st := s_law_rows) l_law_rows c_law_rows k_law_rows
  have b_law_rows := F_law_rows.binds (ps := ["layout", "log"]) fun _ _ _ _ _ _ us hl => match us, hl with | [_, _], _ => rfl
  have F_law_candidates := fun_mk (st := s_law_candidates) l_law_candidates c_law_candidates k_law_candidates
  have b_law_candidates := F_law_candidates.binds (ps := ["layout", "rows"]) fun _ _ _ _ _ _ us hl => match us, hl with | [_, _], _ => rfl
  have F_law := fun_mk (st := s_law) l_law c_law k_law
  have b_law := F_law.binds (ps := ["script"]) fun _ _ _ _ _ _ us hl => match us, hl with | [_], _ => rfl
  let T : Txt K mg := {
    a_Layout___init := f_Layout___init,
    fd_Layout___init := _,
    F_Layout___init := F_Layout___init,
    b_Layout___init := b_Layout___init,
    a_address_at := f_address_at,
    fd_address_at := _,
    F_address_at := F_address_at,
    b_address_at := b_address_at,
    m_address_at := PySem.W.mg_of X G a_address_at,
    a_segment_of := f_segment_of,
    fd_segment_of := _,
    F_segment_of := F_segment_of,
    b_segment_of := b_segment_of,
    m_segment_of := PySem.W.mg_of X G a_segment_of,
    a_region_start := f_region_start,
    fd_region_start := _,
    F_region_start := F_region_start,
    b_region_start := b_region_start,
    m_region_start := PySem.W.mg_of X G a_region_start,
    a_parts_of := f_parts_of,
    fd_parts_of := _,
    F_parts_of := F_parts_of,
    b_parts_of := b_parts_of,
    m_parts_of := PySem.W.mg_of X G a_parts_of,
    a_is_payload := f_is_payload,
    fd_is_payload := _,
    F_is_payload := F_is_payload,
    b_is_payload := b_is_payload,
    m_is_payload := PySem.W.mg_of X G a_is_payload,
    a_payload_of := f_payload_of,
    fd_payload_of := _,
    F_payload_of := F_payload_of,
    b_payload_of := b_payload_of,
    m_payload_of := PySem.W.mg_of X G a_payload_of,
    a_stamped := f_stamped,
    fd_stamped := _,
    F_stamped := F_stamped,
    b_stamped := b_stamped,
    m_stamped := PySem.W.mg_of X G a_stamped,
    a_Counts___init := f_Counts___init,
    fd_Counts___init := _,
    F_Counts___init := F_Counts___init,
    b_Counts___init := b_Counts___init,
    a_empty_table := f_empty_table,
    fd_empty_table := _,
    F_empty_table := F_empty_table,
    b_empty_table := b_empty_table,
    m_empty_table := PySem.W.mg_of X G a_empty_table,
    a_copy_of_table := f_copy_of_table,
    fd_copy_of_table := _,
    F_copy_of_table := F_copy_of_table,
    b_copy_of_table := b_copy_of_table,
    m_copy_of_table := PySem.W.mg_of X G a_copy_of_table,
    a_commit_to_table := f_commit_to_table,
    fd_commit_to_table := _,
    F_commit_to_table := F_commit_to_table,
    b_commit_to_table := b_commit_to_table,
    m_commit_to_table := PySem.W.mg_of X G a_commit_to_table,
    a_slots_after := f_slots_after,
    fd_slots_after := _,
    F_slots_after := F_slots_after,
    b_slots_after := b_slots_after,
    m_slots_after := PySem.W.mg_of X G a_slots_after,
    a_move_in_table := f_move_in_table,
    fd_move_in_table := _,
    F_move_in_table := F_move_in_table,
    b_move_in_table := b_move_in_table,
    m_move_in_table := PySem.W.mg_of X G a_move_in_table,
    a_Log___init := f_Log___init,
    fd_Log___init := _,
    F_Log___init := F_Log___init,
    b_Log___init := b_Log___init,
    a_payload_at := f_payload_at,
    fd_payload_at := _,
    F_payload_at := F_payload_at,
    b_payload_at := b_payload_at,
    m_payload_at := PySem.W.mg_of X G a_payload_at,
    a_live_addresses := f_live_addresses,
    fd_live_addresses := _,
    F_live_addresses := F_live_addresses,
    b_live_addresses := b_live_addresses,
    m_live_addresses := PySem.W.mg_of X G a_live_addresses,
    a_append_commit := f_append_commit,
    fd_append_commit := _,
    F_append_commit := F_append_commit,
    b_append_commit := b_append_commit,
    m_append_commit := PySem.W.mg_of X G a_append_commit,
    a_append_move := f_append_move,
    fd_append_move := _,
    F_append_move := F_append_move,
    b_append_move := b_append_move,
    m_append_move := PySem.W.mg_of X G a_append_move,
    a_sync_log := f_sync_log,
    fd_sync_log := _,
    F_sync_log := F_sync_log,
    b_sync_log := b_sync_log,
    m_sync_log := PySem.W.mg_of X G a_sync_log,
    a_enter_next_segment := f_enter_next_segment,
    fd_enter_next_segment := _,
    F_enter_next_segment := F_enter_next_segment,
    b_enter_next_segment := b_enter_next_segment,
    m_enter_next_segment := PySem.W.mg_of X G a_enter_next_segment,
    a_listed_in := f_listed_in,
    fd_listed_in := _,
    F_listed_in := F_listed_in,
    b_listed_in := b_listed_in,
    m_listed_in := PySem.W.mg_of X G a_listed_in,
    a_take_batch := f_take_batch,
    fd_take_batch := _,
    F_take_batch := F_take_batch,
    b_take_batch := b_take_batch,
    m_take_batch := PySem.W.mg_of X G a_take_batch,
    a_write_batch := f_write_batch,
    fd_write_batch := _,
    F_write_batch := F_write_batch,
    b_write_batch := b_write_batch,
    m_write_batch := PySem.W.mg_of X G a_write_batch,
    a_live_counts := f_live_counts,
    fd_live_counts := _,
    F_live_counts := F_live_counts,
    b_live_counts := b_live_counts,
    m_live_counts := PySem.W.mg_of X G a_live_counts,
    a_ages := f_ages,
    fd_ages := _,
    F_ages := F_ages,
    b_ages := b_ages,
    m_ages := PySem.W.mg_of X G a_ages,
    a_segment_rows := f_segment_rows,
    fd_segment_rows := _,
    F_segment_rows := F_segment_rows,
    b_segment_rows := b_segment_rows,
    m_segment_rows := PySem.W.mg_of X G a_segment_rows,
    a_candidates := f_candidates,
    fd_candidates := _,
    F_candidates := F_candidates,
    b_candidates := b_candidates,
    m_candidates := PySem.W.mg_of X G a_candidates,
    a_condition := f_condition,
    fd_condition := _,
    F_condition := F_condition,
    b_condition := b_condition,
    m_condition := PySem.W.mg_of X G a_condition,
    a_Device___init := f_Device___init,
    fd_Device___init := _,
    F_Device___init := F_Device___init,
    b_Device___init := b_Device___init_3,
    ds_Device___init_2 := ds_Device___init_2,
    v_Device___init_2 := v_Device___init_2,
    b_Device___init_2 := b_Device___init_2,
    a_Device_read := f_Device_read,
    fd_Device_read := _,
    F_Device_read := F_Device_read,
    b_Device_read := b_Device_read,
    me_Device_read := ⟨a_Device_read, i_Device_read, k_Device_read⟩,
    a_Device_write := f_Device_write,
    fd_Device_write := _,
    F_Device_write := F_Device_write,
    b_Device_write := b_Device_write,
    me_Device_write := ⟨a_Device_write, i_Device_write, k_Device_write⟩,
    a_Device_barrier := f_Device_barrier,
    fd_Device_barrier := _,
    F_Device_barrier := F_Device_barrier,
    b_Device_barrier := b_Device_barrier,
    me_Device_barrier := ⟨a_Device_barrier, i_Device_barrier, k_Device_barrier⟩,
    a_Device_pending := f_Device_pending,
    fd_Device_pending := _,
    F_Device_pending := F_Device_pending,
    b_Device_pending := b_Device_pending,
    me_Device_pending := ⟨a_Device_pending, i_Device_pending, k_Device_pending⟩,
    a_Device_written_blocks := f_Device_written_blocks,
    fd_Device_written_blocks := _,
    F_Device_written_blocks := F_Device_written_blocks,
    b_Device_written_blocks := b_Device_written_blocks,
    me_Device_written_blocks := ⟨a_Device_written_blocks, i_Device_written_blocks, k_Device_written_blocks⟩,
    a_Device__takes_place := f_Device__takes_place,
    fd_Device__takes_place := _,
    F_Device__takes_place := F_Device__takes_place,
    b_Device__takes_place := b_Device__takes_place,
    me_Device__takes_place := ⟨a_Device__takes_place, i_Device__takes_place, k_Device__takes_place⟩,
    a_put_block := f_put_block,
    fd_put_block := _,
    F_put_block := F_put_block,
    b_put_block := b_put_block,
    m_put_block := PySem.W.mg_of X G a_put_block,
    a_filled := f_filled,
    fd_filled := _,
    F_filled := F_filled,
    b_filled := b_filled,
    m_filled := PySem.W.mg_of X G a_filled,
    a_pieces := f_pieces,
    fd_pieces := _,
    F_pieces := F_pieces,
    b_pieces := b_pieces,
    m_pieces := PySem.W.mg_of X G a_pieces,
    a_checkpoint_numbers := f_checkpoint_numbers,
    fd_checkpoint_numbers := _,
    F_checkpoint_numbers := F_checkpoint_numbers,
    b_checkpoint_numbers := b_checkpoint_numbers,
    m_checkpoint_numbers := PySem.W.mg_of X G a_checkpoint_numbers,
    a_write_checkpoint := f_write_checkpoint,
    fd_write_checkpoint := _,
    F_write_checkpoint := F_write_checkpoint,
    b_write_checkpoint := b_write_checkpoint,
    m_write_checkpoint := PySem.W.mg_of X G a_write_checkpoint,
    a_slot_numbers := f_slot_numbers,
    fd_slot_numbers := _,
    F_slot_numbers := F_slot_numbers,
    b_slot_numbers := b_slot_numbers,
    m_slot_numbers := PySem.W.mg_of X G a_slot_numbers,
    a_segments_to_free := f_segments_to_free,
    fd_segments_to_free := _,
    F_segments_to_free := F_segments_to_free,
    b_segments_to_free := b_segments_to_free,
    m_segments_to_free := PySem.W.mg_of X G a_segments_to_free,
    a_new_log := f_new_log,
    fd_new_log := _,
    F_new_log := F_new_log,
    b_new_log := b_new_log,
    m_new_log := PySem.W.mg_of X G a_new_log,
    a_victims := f_victims,
    fd_victims := _,
    F_victims := F_victims,
    b_victims := b_victims,
    m_victims := PySem.W.mg_of X G a_victims,
    a_cargo := f_cargo,
    fd_cargo := _,
    F_cargo := F_cargo,
    b_cargo := b_cargo,
    m_cargo := PySem.W.mg_of X G a_cargo,
    a_fill := f_fill,
    fd_fill := _,
    F_fill := F_fill,
    b_fill := b_fill,
    m_fill := PySem.W.mg_of X G a_fill,
    a_law_row := f_law_row,
    fd_law_row := _,
    F_law_row := F_law_row,
    b_law_row := b_law_row,
    m_law_row := PySem.W.mg_of X G a_law_row,
    a_law_digits := f_law_digits,
    fd_law_digits := _,
    F_law_digits := F_law_digits,
    b_law_digits := b_law_digits,
    m_law_digits := PySem.W.mg_of X G a_law_digits,
    a_law_layout := f_law_layout,
    fd_law_layout := _,
    F_law_layout := F_law_layout,
    b_law_layout := b_law_layout,
    m_law_layout := PySem.W.mg_of X G a_law_layout,
    a_law_after := f_law_after,
    fd_law_after := _,
    F_law_after := F_law_after,
    b_law_after := b_law_after,
    m_law_after := PySem.W.mg_of X G a_law_after,
    a_law_payloads := f_law_payloads,
    fd_law_payloads := _,
    F_law_payloads := F_law_payloads,
    b_law_payloads := b_law_payloads,
    m_law_payloads := PySem.W.mg_of X G a_law_payloads,
    a_law_ids := f_law_ids,
    fd_law_ids := _,
    F_law_ids := F_law_ids,
    b_law_ids := b_law_ids,
    m_law_ids := PySem.W.mg_of X G a_law_ids,
    a_law_used := f_law_used,
    fd_law_used := _,
    F_law_used := F_law_used,
    b_law_used := b_law_used,
    m_law_used := PySem.W.mg_of X G a_law_used,
    a_law_live := f_law_live,
    fd_law_live := _,
    F_law_live := F_law_live,
    b_law_live := b_law_live,
    m_law_live := PySem.W.mg_of X G a_law_live,
    a_law_deed := f_law_deed,
    fd_law_deed := _,
    F_law_deed := F_law_deed,
    b_law_deed := b_law_deed,
    m_law_deed := PySem.W.mg_of X G a_law_deed,
    a_law_rows := f_law_rows,
    fd_law_rows := _,
    F_law_rows := F_law_rows,
    b_law_rows := b_law_rows,
    m_law_rows := PySem.W.mg_of X G a_law_rows,
    a_law_candidates := f_law_candidates,
    fd_law_candidates := _,
    F_law_candidates := F_law_candidates,
    b_law_candidates := b_law_candidates,
    m_law_candidates := PySem.W.mg_of X G a_law_candidates,
    a_law := fa,
    fd_law := _,
    F_law := F_law,
    b_law := b_law,
    m_law := PySem.W.mg_of X G a_law,
    A_Layout := C_Layout,
    m_Layout := PySem.W.mg_of X G mC_Layout,
    cl_Layout := ⟨pg_Layout, hd_Layout, po_Layout, sa_Layout⟩,
    M_Layout := ⟨mk_Layout, a_Layout___init, i_Layout___init, kc_Layout⟩,
    na_Layout_segments := na_Layout_segments,
    na_Layout_segment_blocks := na_Layout_segment_blocks,
    na_Layout_block_size := na_Layout_block_size,
    na_Layout_payload := na_Layout_payload,
    na_Layout_limit := na_Layout_limit,
    na_Layout_last_id := na_Layout_last_id,
    na_Layout_fan := na_Layout_fan,
    na_Layout_region_blocks := na_Layout_region_blocks,
    na_Layout_device_blocks := na_Layout_device_blocks,
    A_Counts := C_Counts,
    m_Counts := PySem.W.mg_of X G mC_Counts,
    cl_Counts := ⟨pg_Counts, hd_Counts, po_Counts, sa_Counts⟩,
    M_Counts := ⟨mk_Counts, a_Counts___init, i_Counts___init, kc_Counts⟩,
    na_Counts_commits := na_Counts_commits,
    na_Counts_commit_blocks := na_Counts_commit_blocks,
    na_Counts_moves := na_Counts_moves,
    na_Counts_move_blocks := na_Counts_move_blocks,
    na_Counts_checkpoints := na_Counts_checkpoints,
    na_Counts_checkpoint_blocks := na_Counts_checkpoint_blocks,
    na_Counts_barriers := na_Counts_barriers,
    A_Log := C_Log,
    m_Log := PySem.W.mg_of X G mC_Log,
    cl_Log := ⟨pg_Log, hd_Log, po_Log, sa_Log⟩,
    M_Log := ⟨mk_Log, a_Log___init, i_Log___init, kc_Log⟩,
    na_Log_device := na_Log_device,
    na_Log_layout := na_Log_layout,
    na_Log_present := na_Log_present,
    na_Log_slots := na_Log_slots,
    na_Log_head := na_Log_head,
    na_Log_place := na_Log_place,
    na_Log_queue := na_Log_queue,
    na_Log_last_sequence := na_Log_last_sequence,
    na_Log_region := na_Log_region,
    na_Log_counts := na_Log_counts,
    A_Device := C_Device,
    m_Device := PySem.W.mg_of X G mC_Device,
    cl_Device := ⟨pg_Device, hd_Device, po_Device, sa_Device⟩,
    M_Device := ⟨mk_Device, a_Device___init, i_Device___init, kc_Device⟩,
    na_Device_layout := na_Device_layout,
    na_Device__sure := na_Device__sure,
    na_Device__shown := na_Device__shown,
    na_Device__unsure := na_Device__unsure,
    na_Device__commands_left := na_Device__commands_left,
    na_Device__power_is_off := na_Device__power_is_off,
    a_BLOCK_SIZES := k_BLOCK_SIZES,
    c_BLOCK_SIZES := PySem.W.mg_of X G q_BLOCK_SIZES,
    r_BLOCK_SIZES := rfl,
    v_BLOCK_SIZES := fun _ => .inr ⟨_, _, _, y_BLOCK_SIZES, rfl, rfl, Nat.le_of_ble_eq_true rfl, (.cons ⟨_, rfl⟩ (.cons ⟨_, rfl⟩ (.cons ⟨_, rfl⟩ .nil)))⟩,
    t_COMMIT := t_COMMIT,
    c_COMMIT := PySem.W.mg_of X G q_COMMIT,
    r_COMMIT := ⟨_, rfl⟩,
    t_DATA := t_DATA,
    c_DATA := PySem.W.mg_of X G q_DATA,
    r_DATA := ⟨_, rfl⟩,
    t_MOVE := t_MOVE,
    c_MOVE := PySem.W.mg_of X G q_MOVE,
    r_MOVE := ⟨_, rfl⟩,
    t_NODE := t_NODE,
    c_NODE := PySem.W.mg_of X G q_NODE,
    r_NODE := ⟨_, rfl⟩,
    t_PART := t_PART,
    c_PART := PySem.W.mg_of X G q_PART,
    r_PART := ⟨_, rfl⟩,
    t_SUMMARY_HEAD := t_SUMMARY_HEAD,
    c_SUMMARY_HEAD := PySem.W.mg_of X G q_SUMMARY_HEAD,
    r_SUMMARY_HEAD := ⟨_, rfl⟩,
    n_enumerate := PySem.W.mg_none_of X G n_enumerate,
    n_int := PySem.W.mg_none_of X G n_int,
    n_isinstance := PySem.W.mg_none_of X G n_isinstance,
    n_len := PySem.W.mg_none_of X G n_len,
    n_list := PySem.W.mg_none_of X G n_list,
    n_max := PySem.W.mg_none_of X G n_max,
    n_range := PySem.W.mg_none_of X G n_range,
    n_set := PySem.W.mg_none_of X G n_set,
    n_sorted := PySem.W.mg_none_of X G n_sorted,
    n_tuple := PySem.W.mg_none_of X G n_tuple,
    n_zip := PySem.W.mg_none_of X G n_zip }
  exact ⟨_, fun s v => .of_eq rfl, fun base _ _ => ok_law T⟩
theorem walk {l : PySem.W.OpenLaw} {q : Program} {loose : List Str} {XP : (Str → Option Value) → Heap → Prop} {YP : World → Heap → Prop} {d : DefRec} {K : Params → PySem.W.Frag} (hn : l.most = some 63) (hdf : d.params.defaults = [])
    (hY : ∀ (w : World) (h : Heap), YP w h → (K w.params).In h)
    (F : ∀ (w : World) (mg : Str → Option Value) (fa : Addr) (h : Heap), (K w.params).In h → h.Ns mainGlobals mg → mg d.name = some (.ref fa) →
      ∃ fd : FuncData, (∀ (s : Shared) (u : Value), BindsTo s fd ⟨[u], []⟩ [("script", u)]) ∧ ∀ base : Heap, (K w.params).In base → base.Ns mainGlobals mg → FnOk l.prog w (K w.params) mg base CX0 8 fa fd ["script"] (spLawK (K w.params))) :
    PySem.W.WalkO q loose XP YP l.row.toRowW d [] (fun f vs => PySem.call f vs) :=
  L2.walk_of (n := 63) (k := 8) (x := "script") (CX := fun _ => CX0) (sp := fun w => spLawK (K w.params)) hn (by decide) hdf ⟨rfl, by decide, by decide⟩ hY F (fun _ _ a ns hl hO hS => ⟨a, ns, rfl, scr_of hO hS, hl, fun _ => rfl⟩) fun _ _ _ _ _ z => z
end Sg

open PySem PySem.W PyProof.Rows in
set_option maxRecDepth 100000 in
set_option maxHeartbeats 0 in
theorem PySem.Challenge.cw_segmentfs_k25_reports_of_segments_holds : PySem.Challenge.rw_segmentfs_k25_reports_of_segments.Holds := by
  w_on; o_law; k_head; (case hw => w_witness2)
  k_fill
  refine Sg.walk (l := PySem.Challenge.rw_segmentfs_k25_reports_of_segments) rfl rfl (fun w h Y => PySem.W.kIn_of Y) ?F
  case F =>
    intro w mg fa h KX G hmg
    refine' Sg.all_mk KX G hmg ?mC_Layout ?pg_Layout ?hd_Layout ?po_Layout ?sa_Layout ?mk_Layout ?kc_Layout ?na_Layout_segments ?na_Layout_segment_blocks ?na_Layout_block_size ?na_Layout_payload ?na_Layout_limit ?na_Layout_last_id ?na_Layout_fan ?na_Layout_region_blocks ?na_Layout_device_blocks ?mC_Counts ?pg_Counts ?hd_Counts ?po_Counts ?sa_Counts ?mk_Counts ?kc_Counts ?na_Counts_commits ?na_Counts_commit_blocks ?na_Counts_moves ?na_Counts_move_blocks ?na_Counts_checkpoints ?na_Counts_checkpoint_blocks ?na_Counts_barriers ?mC_Log ?pg_Log ?hd_Log ?po_Log ?sa_Log ?mk_Log ?kc_Log ?na_Log_device ?na_Log_layout ?na_Log_present ?na_Log_slots ?na_Log_head ?na_Log_place ?na_Log_queue ?na_Log_last_sequence ?na_Log_region ?na_Log_counts ?mC_Device ?pg_Device ?hd_Device ?po_Device ?sa_Device ?mk_Device ?kc_Device ?na_Device_layout ?na_Device__sure ?na_Device__shown ?na_Device__unsure ?na_Device__commands_left ?na_Device__power_is_off ?a_Layout___init ?i_Layout___init ?l_Layout___init ?c_Layout___init ?k_Layout___init ?a_address_at ?l_address_at ?c_address_at ?k_address_at ?a_segment_of ?l_segment_of ?c_segment_of ?k_segment_of ?a_region_start ?l_region_start ?c_region_start ?k_region_start ?a_parts_of ?l_parts_of ?c_parts_of ?k_parts_of ?a_is_payload ?l_is_payload ?c_is_payload ?k_is_payload ?a_payload_of ?l_payload_of ?c_payload_of ?k_payload_of ?a_stamped ?l_stamped ?c_stamped ?k_stamped ?a_Counts___init ?i_Counts___init ?l_Counts___init ?c_Counts___init ?k_Counts___init ?a_empty_table ?l_empty_table ?c_empty_table ?k_empty_table ?a_copy_of_table ?l_copy_of_table ?c_copy_of_table ?k_copy_of_table ?a_commit_to_table ?l_commit_to_table ?c_commit_to_table ?k_commit_to_table ?a_slots_after ?l_slots_after ?c_slots_after ?k_slots_after ?a_move_in_table ?l_move_in_table ?c_move_in_table ?k_move_in_table ?a_Log___init ?i_Log___init ?l_Log___init ?c_Log___init ?k_Log___init ?a_payload_at ?l_payload_at ?c_payload_at ?k_payload_at ?a_live_addresses ?l_live_addresses ?c_live_addresses ?k_live_addresses ?a_append_commit ?l_append_commit ?c_append_commit ?k_append_commit ?a_append_move ?l_append_move ?c_append_move ?k_append_move ?a_sync_log ?l_sync_log ?c_sync_log ?k_sync_log ?a_enter_next_segment ?l_enter_next_segment ?c_enter_next_segment ?k_enter_next_segment ?a_listed_in ?l_listed_in ?c_listed_in ?k_listed_in ?a_take_batch ?l_take_batch ?c_take_batch ?k_take_batch ?a_write_batch ?l_write_batch ?c_write_batch ?k_write_batch ?a_live_counts ?l_live_counts ?c_live_counts ?k_live_counts ?a_ages ?l_ages ?c_ages ?k_ages ?a_segment_rows ?l_segment_rows ?c_segment_rows ?k_segment_rows ?a_candidates ?l_candidates ?c_candidates ?k_candidates ?a_condition ?l_condition ?c_condition ?k_condition ?a_Device___init ?i_Device___init ?l_Device___init ?dl_Device___init ?c_Device___init ?k_Device___init ?a_Device_read ?i_Device_read ?l_Device_read ?c_Device_read ?k_Device_read ?a_Device_write ?i_Device_write ?l_Device_write ?c_Device_write ?k_Device_write ?a_Device_barrier ?i_Device_barrier ?l_Device_barrier ?c_Device_barrier ?k_Device_barrier ?a_Device_pending ?i_Device_pending ?l_Device_pending ?c_Device_pending ?k_Device_pending ?a_Device_written_blocks ?i_Device_written_blocks ?l_Device_written_blocks ?c_Device_written_blocks ?k_Device_written_blocks ?a_Device__takes_place ?i_Device__takes_place ?l_Device__takes_place ?c_Device__takes_place ?k_Device__takes_place ?a_put_block ?l_put_block ?c_put_block ?k_put_block ?a_filled ?l_filled ?c_filled ?k_filled ?a_pieces ?l_pieces ?c_pieces ?k_pieces ?a_checkpoint_numbers ?l_checkpoint_numbers ?c_checkpoint_numbers ?k_checkpoint_numbers ?a_write_checkpoint ?l_write_checkpoint ?c_write_checkpoint ?k_write_checkpoint ?a_slot_numbers ?l_slot_numbers ?c_slot_numbers ?k_slot_numbers ?a_segments_to_free ?l_segments_to_free ?c_segments_to_free ?k_segments_to_free ?a_new_log ?l_new_log ?c_new_log ?k_new_log ?a_victims ?l_victims ?c_victims ?k_victims ?a_cargo ?l_cargo ?c_cargo ?k_cargo ?a_fill ?l_fill ?c_fill ?k_fill ?a_law_row ?l_law_row ?c_law_row ?k_law_row ?a_law_digits ?l_law_digits ?c_law_digits ?k_law_digits ?a_law_layout ?l_law_layout ?c_law_layout ?k_law_layout ?a_law_after ?l_law_after ?c_law_after ?k_law_after ?a_law_payloads ?l_law_payloads ?c_law_payloads ?k_law_payloads ?a_law_ids ?l_law_ids ?c_law_ids ?k_law_ids ?a_law_used ?l_law_used ?c_law_used ?k_law_used ?a_law_live ?l_law_live ?c_law_live ?k_law_live ?a_law_deed ?l_law_deed ?c_law_deed ?k_law_deed ?a_law_rows ?l_law_rows ?c_law_rows ?k_law_rows ?a_law_candidates ?l_law_candidates ?c_law_candidates ?k_law_candidates ?a_law ?l_law ?c_law ?k_law ?q_BLOCK_SIZES ?y_BLOCK_SIZES ?q_COMMIT ?q_DATA ?q_MOVE ?q_NODE ?q_PART ?q_SUMMARY_HEAD ?n_enumerate ?n_int ?n_isinstance ?n_len ?n_list ?n_max ?n_range ?n_set ?n_sorted ?n_tuple ?n_zip
    (case mC_Layout => k_is)
    (case pg_Layout => k_is)
    (case hd_Layout => k_is)
    (case po_Layout => k_is)
    (case sa_Layout => k_is)
    (case mk_Layout => k_is)
    (case kc_Layout => k_is)
    (case na_Layout_segments => k_is)
    (case na_Layout_segment_blocks => k_is)
    (case na_Layout_block_size => k_is)
    (case na_Layout_payload => k_is)
    (case na_Layout_limit => k_is)
    (case na_Layout_last_id => k_is)
    (case na_Layout_fan => k_is)
    (case na_Layout_region_blocks => k_is)
    (case na_Layout_device_blocks => k_is)
    (case mC_Counts => k_is)
    (case pg_Counts => k_is)
    (case hd_Counts => k_is)
    (case po_Counts => k_is)
    (case sa_Counts => k_is)
    (case mk_Counts => k_is)
    (case kc_Counts => k_is)
    (case na_Counts_commits => k_is)
    (case na_Counts_commit_blocks => k_is)
    (case na_Counts_moves => k_is)
    (case na_Counts_move_blocks => k_is)
    (case na_Counts_checkpoints => k_is)
    (case na_Counts_checkpoint_blocks => k_is)
    (case na_Counts_barriers => k_is)
    (case mC_Log => k_is)
    (case pg_Log => k_is)
    (case hd_Log => k_is)
    (case po_Log => k_is)
    (case sa_Log => k_is)
    (case mk_Log => k_is)
    (case kc_Log => k_is)
    (case na_Log_device => k_is)
    (case na_Log_layout => k_is)
    (case na_Log_present => k_is)
    (case na_Log_slots => k_is)
    (case na_Log_head => k_is)
    (case na_Log_place => k_is)
    (case na_Log_queue => k_is)
    (case na_Log_last_sequence => k_is)
    (case na_Log_region => k_is)
    (case na_Log_counts => k_is)
    (case mC_Device => k_is)
    (case pg_Device => k_is)
    (case hd_Device => k_is)
    (case po_Device => k_is)
    (case sa_Device => k_is)
    (case mk_Device => k_is)
    (case kc_Device => k_is)
    (case na_Device_layout => k_is)
    (case na_Device__sure => k_is)
    (case na_Device__shown => k_is)
    (case na_Device__unsure => k_is)
    (case na_Device__commands_left => k_is)
    (case na_Device__power_is_off => k_is)
    (case a_Layout___init => k_is)
    (case i_Layout___init => k_is)
    (case l_Layout___init => k_is)
    (case c_Layout___init => k_is)
    (case k_Layout___init => k_is)
    (case a_address_at => k_is)
    (case l_address_at => k_is)
    (case c_address_at => k_is)
    (case k_address_at => k_is)
    (case a_segment_of => k_is)
    (case l_segment_of => k_is)
    (case c_segment_of => k_is)
    (case k_segment_of => k_is)
    (case a_region_start => k_is)
    (case l_region_start => k_is)
    (case c_region_start => k_is)
    (case k_region_start => k_is)
    (case a_parts_of => k_is)
    (case l_parts_of => k_is)
    (case c_parts_of => k_is)
    (case k_parts_of => k_is)
    (case a_is_payload => k_is)
    (case l_is_payload => k_is)
    (case c_is_payload => k_is)
    (case k_is_payload => k_is)
    (case a_payload_of => k_is)
    (case l_payload_of => k_is)
    (case c_payload_of => k_is)
    (case k_payload_of => k_is)
    (case a_stamped => k_is)
    (case l_stamped => k_is)
    (case c_stamped => k_is)
    (case k_stamped => k_is)
    (case a_Counts___init => k_is)
    (case i_Counts___init => k_is)
    (case l_Counts___init => k_is)
    (case c_Counts___init => k_is)
    (case k_Counts___init => k_is)
    (case a_empty_table => k_is)
    (case l_empty_table => k_is)
    (case c_empty_table => k_is)
    (case k_empty_table => k_is)
    (case a_copy_of_table => k_is)
    (case l_copy_of_table => k_is)
    (case c_copy_of_table => k_is)
    (case k_copy_of_table => k_is)
    (case a_commit_to_table => k_is)
    (case l_commit_to_table => k_is)
    (case c_commit_to_table => k_is)
    (case k_commit_to_table => k_is)
    (case a_slots_after => k_is)
    (case l_slots_after => k_is)
    (case c_slots_after => k_is)
    (case k_slots_after => k_is)
    (case a_move_in_table => k_is)
    (case l_move_in_table => k_is)
    (case c_move_in_table => k_is)
    (case k_move_in_table => k_is)
    (case a_Log___init => k_is)
    (case i_Log___init => k_is)
    (case l_Log___init => k_is)
    (case c_Log___init => k_is)
    (case k_Log___init => k_is)
    (case a_payload_at => k_is)
    (case l_payload_at => k_is)
    (case c_payload_at => k_is)
    (case k_payload_at => k_is)
    (case a_live_addresses => k_is)
    (case l_live_addresses => k_is)
    (case c_live_addresses => k_is)
    (case k_live_addresses => k_is)
    (case a_append_commit => k_is)
    (case l_append_commit => k_is)
    (case c_append_commit => k_is)
    (case k_append_commit => k_is)
    (case a_append_move => k_is)
    (case l_append_move => k_is)
    (case c_append_move => k_is)
    (case k_append_move => k_is)
    (case a_sync_log => k_is)
    (case l_sync_log => k_is)
    (case c_sync_log => k_is)
    (case k_sync_log => k_is)
    (case a_enter_next_segment => k_is)
    (case l_enter_next_segment => k_is)
    (case c_enter_next_segment => k_is)
    (case k_enter_next_segment => k_is)
    (case a_listed_in => k_is)
    (case l_listed_in => k_is)
    (case c_listed_in => k_is)
    (case k_listed_in => k_is)
    (case a_take_batch => k_is)
    (case l_take_batch => k_is)
    (case c_take_batch => k_is)
    (case k_take_batch => k_is)
    (case a_write_batch => k_is)
    (case l_write_batch => k_is)
    (case c_write_batch => k_is)
    (case k_write_batch => k_is)
    (case a_live_counts => k_is)
    (case l_live_counts => k_is)
    (case c_live_counts => k_is)
    (case k_live_counts => k_is)
    (case a_ages => k_is)
    (case l_ages => k_is)
    (case c_ages => k_is)
    (case k_ages => k_is)
    (case a_segment_rows => k_is)
    (case l_segment_rows => k_is)
    (case c_segment_rows => k_is)
    (case k_segment_rows => k_is)
    (case a_candidates => k_is)
    (case l_candidates => k_is)
    (case c_candidates => k_is)
    (case k_candidates => k_is)
    (case a_condition => k_is)
    (case l_condition => k_is)
    (case c_condition => k_is)
    (case k_condition => k_is)
    (case a_Device___init => k_is)
    (case i_Device___init => k_is)
    (case l_Device___init => k_is)
    (case dl_Device___init => k_is)
    (case c_Device___init => k_is)
    (case k_Device___init => k_is)
    (case a_Device_read => k_is)
    (case i_Device_read => k_is)
    (case l_Device_read => k_is)
    (case c_Device_read => k_is)
    (case k_Device_read => k_is)
    (case a_Device_write => k_is)
    (case i_Device_write => k_is)
    (case l_Device_write => k_is)
    (case c_Device_write => k_is)
    (case k_Device_write => k_is)
    (case a_Device_barrier => k_is)
    (case i_Device_barrier => k_is)
    (case l_Device_barrier => k_is)
    (case c_Device_barrier => k_is)
    (case k_Device_barrier => k_is)
    (case a_Device_pending => k_is)
    (case i_Device_pending => k_is)
    (case l_Device_pending => k_is)
    (case c_Device_pending => k_is)
    (case k_Device_pending => k_is)
    (case a_Device_written_blocks => k_is)
    (case i_Device_written_blocks => k_is)
    (case l_Device_written_blocks => k_is)
    (case c_Device_written_blocks => k_is)
    (case k_Device_written_blocks => k_is)
    (case a_Device__takes_place => k_is)
    (case i_Device__takes_place => k_is)
    (case l_Device__takes_place => k_is)
    (case c_Device__takes_place => k_is)
    (case k_Device__takes_place => k_is)
    (case a_put_block => k_is)
    (case l_put_block => k_is)
    (case c_put_block => k_is)
    (case k_put_block => k_is)
    (case a_filled => k_is)
    (case l_filled => k_is)
    (case c_filled => k_is)
    (case k_filled => k_is)
    (case a_pieces => k_is)
    (case l_pieces => k_is)
    (case c_pieces => k_is)
    (case k_pieces => k_is)
    (case a_checkpoint_numbers => k_is)
    (case l_checkpoint_numbers => k_is)
    (case c_checkpoint_numbers => k_is)
    (case k_checkpoint_numbers => k_is)
    (case a_write_checkpoint => k_is)
    (case l_write_checkpoint => k_is)
    (case c_write_checkpoint => k_is)
    (case k_write_checkpoint => k_is)
    (case a_slot_numbers => k_is)
    (case l_slot_numbers => k_is)
    (case c_slot_numbers => k_is)
    (case k_slot_numbers => k_is)
    (case a_segments_to_free => k_is)
    (case l_segments_to_free => k_is)
    (case c_segments_to_free => k_is)
    (case k_segments_to_free => k_is)
    (case a_new_log => k_is)
    (case l_new_log => k_is)
    (case c_new_log => k_is)
    (case k_new_log => k_is)
    (case a_victims => k_is)
    (case l_victims => k_is)
    (case c_victims => k_is)
    (case k_victims => k_is)
    (case a_cargo => k_is)
    (case l_cargo => k_is)
    (case c_cargo => k_is)
    (case k_cargo => k_is)
    (case a_fill => k_is)
    (case l_fill => k_is)
    (case c_fill => k_is)
    (case k_fill => k_is)
    (case a_law_row => k_is)
    (case l_law_row => k_is)
    (case c_law_row => k_is)
    (case k_law_row => k_is)
    (case a_law_digits => k_is)
    (case l_law_digits => k_is)
    (case c_law_digits => k_is)
    (case k_law_digits => k_is)
    (case a_law_layout => k_is)
    (case l_law_layout => k_is)
    (case c_law_layout => k_is)
    (case k_law_layout => k_is)
    (case a_law_after => k_is)
    (case l_law_after => k_is)
    (case c_law_after => k_is)
    (case k_law_after => k_is)
    (case a_law_payloads => k_is)
    (case l_law_payloads => k_is)
    (case c_law_payloads => k_is)
    (case k_law_payloads => k_is)
    (case a_law_ids => k_is)
    (case l_law_ids => k_is)
    (case c_law_ids => k_is)
    (case k_law_ids => k_is)
    (case a_law_used => k_is)
    (case l_law_used => k_is)
    (case c_law_used => k_is)
    (case k_law_used => k_is)
    (case a_law_live => k_is)
    (case l_law_live => k_is)
    (case c_law_live => k_is)
    (case k_law_live => k_is)
    (case a_law_deed => k_is)
    (case l_law_deed => k_is)
    (case c_law_deed => k_is)
    (case k_law_deed => k_is)
    (case a_law_rows => k_is)
    (case l_law_rows => k_is)
    (case c_law_rows => k_is)
    (case k_law_rows => k_is)
    (case a_law_candidates => k_is)
    (case l_law_candidates => k_is)
    (case c_law_candidates => k_is)
    (case k_law_candidates => k_is)
    (case a_law => k_is)
    (case l_law => k_is)
    (case c_law => k_is)
    (case k_law => k_is)
    (case q_BLOCK_SIZES => k_is)
    (case y_BLOCK_SIZES => k_is)
    (case q_COMMIT => k_is)
    (case q_DATA => k_is)
    (case q_MOVE => k_is)
    (case q_NODE => k_is)
    (case q_PART => k_is)
    (case q_SUMMARY_HEAD => k_is)
    (case n_enumerate => k_is)
    (case n_int => k_is)
    (case n_isinstance => k_is)
    (case n_len => k_is)
    (case n_list => k_is)
    (case n_max => k_is)
    (case n_range => k_is)
    (case n_set => k_is)
    (case n_sorted => k_is)
    (case n_tuple => k_is)
    (case n_zip => k_is)

