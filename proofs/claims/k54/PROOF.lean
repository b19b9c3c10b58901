import PyProof.Rows.All
import Wide.All
import OpenK.AllK
import Wide.FinOn
import HandS.ForMost
import HandS.IsInst
import HandS.Style
import HandS.Wide
import HandS.Codes
import HandS.NoneIn
import HandS.Defaults
import HandS.TupMul
import HandS.Zip
import HandS.SetFor
import HandS.SetKeys
import HandS.Walk
import HandS.Codes
import HandS.Text
import HandS.AnyAll
import HandS.WideBits
import HandS.Iter
import HandS.FStr
import HandS.RaiseMore
import HandS.Rev
import HandS.ForExc
import HandS.CallSlots
import HandS.ExcIs
import HandS.SetBool
import HandS.Strs
import HandS.More
import HandS.Deep
import HandS.Replace
import HandS.ReplaceLit
import HandS.ReplaceList
import PyProof.ToksMono
import KE.GoesEnum
import PySem.Challenge.RW_segmentfs_k54_read_paths
set_option Elab.async false
set_option maxRecDepth 100000
set_option maxHeartbeats 4000000
/-! what every text of mine begins with: heaps that grow, and a rule for each head that a reading has -/
namespace Sg
open PySem L2
theorem sz : sizeLine = 16777216 := by decide
theorem Same.of_new {H H' : Hp} {p : Addr} {o : HO} (e : upd H p o = H') (h : H p = none) : Same H H' := fun b u q => by
  rw [← e, upd_ne (ne_of_none q h)]; exact q
theorem at_new {H H' : Hp} {p : Addr} {o : HO} (e : upd H p o = H') : H' p = some o := by rw [← e]; exact upd_same
theorem Same.tup {K : PySem.W.Frag} {H H' : Hp} {a : Addr} {xs : List V} (e : Same H H') (h : SqT K H a xs) : SqT K H' a xs := by
  rcases h with (h | ⟨o, h⟩) | h
  · exact .inl (.inl (e _ _ h))
  · exact .inl (.inr ⟨o, e _ _ h⟩)
  · exact .inr h
/-- an object that is younger than H0 is changed -/
theorem Same.old {H0 H H' : Hp} {p : Addr} {o : HO} (s : Same H0 H) (h : H0 p = none) (e : upd H p o = H') : Same H0 H' := fun b u q => by
  rw [← e, upd_ne (ne_of_none q h)]; exact s _ _ q
theorem at_keep {H H' : Hp} {l a : Addr} {o o' ol : HO} (e : upd H l o' = H') (h : H a = some o) (h' : H l = some ol) (d : o ≠ ol) : H' a = some o := by
  rw [← e, upd_ne (ne_of h h' d)]; exact h
theorem lk_eq {f : Str} {v : V} {fs : List (Str × V)} : (putF f v fs).lookup f = some v := by rw [lookup_putF, if_pos rfl]
theorem lk_ne {f g : Str} {v x : V} {fs : List (Str × V)} (h : ¬ g = f) (q : fs.lookup g = some v) : (putF f x fs).lookup g = some v := by rw [lookup_putF, if_neg h]; exact q
theorem lk_no {f g : Str} {x : V} {fs : List (Str × V)} (h : ¬ g = f) (q : fs.lookup g = none) : (putF f x fs).lookup g = none := by rw [lookup_putF, if_neg h]; exact q
theorem putF_len {f : Str} {v : V} : ∀ {fs : List (Str × V)} {n : Nat}, fs.length ≤ n → (putF f v fs).length ≤ n + 1
  | [], n, _ => by simp [putF]
  | (g, x) :: r, n, h => by
    unfold putF
    split
    · simp at h ⊢; omega
    · cases n with
      | zero => simp at h
      | succ n =>
        simp at h ⊢
        exact putF_len h
theorem to_ite {A B : Prop} {b : Bool} (h1 : b = true → A) (h2 : b = false → B) : if b = true then A else B := by
  cases b with
  | true => exact iteT (h1 rfl)
  | false => exact iteF (h2 rfl)
theorem iteT' {A B : Prop} (h : A) : if (true : Bool) = true then A else B := iteT h
theorem iteF' {A B : Prop} (h : B) : if (false : Bool) = true then A else B := iteF h
theorem r_iteb {A B : Prop} {b : Bool} (hb : b = true) (h : A) : if b = true then A else B := to_ite (fun _ => h) fun z => by rw [hb] at z; cases z
theorem r_iteB {A B : Prop} {b : Bool} (hb : b = false) (h : B) : if b = true then A else B := to_ite (fun z => by rw [hb] at z; cases z) fun _ => h
theorem r_ite {A B c : Prop} [Decidable c] (h1 : c → A) (h2 : ¬ c → B) : if decide c = true then A else B :=
  to_ite (fun h => h1 (of_decide_eq_true h)) (fun h => h2 (of_decide_eq_false h))
theorem r_iteN {A B c : Prop} [Decidable c] (h1 : ¬ c → A) (h2 : c → B) : if (!decide c) = true then A else B :=
  to_ite (fun h => h1 (by simpa using h)) (fun h => h2 (by simpa using h))
theorem r_iteD {A B c : Prop} [Decidable c] (hc : c) (h : A) : if decide c = true then A else B := r_ite (fun _ => h) fun z => absurd hc z
theorem r_iteDn {A B c : Prop} [Decidable c] (hc : ¬ c) (h : B) : if decide c = true then A else B := r_ite (fun z => absurd z hc) fun _ => h
theorem r_iteND {A B c : Prop} [Decidable c] (hc : ¬ c) (h : A) : if (!decide c) = true then A else B := r_iteN (fun _ => h) fun z => absurd z hc
theorem r_iteNDn {A B c : Prop} [Decidable c] (hc : c) (h : B) : if (!decide c) = true then A else B := r_iteN (fun z => absurd hc z) fun _ => h
/-- the continuations of a reading, by name -/
def kTest (QB : Bool → Hp → Prop) : V → Hp → Prop := fun x H => ∃ k, x = .bl k ∧ QB k H
def kFld (K : PySem.W.Frag) (f : Str) (Q : V → Hp → Prop) : V → Hp → Prop := fun x H => ∃ a C dx fs v, x = .ref a ∧ H a = some (.ins C dx fs) ∧ Cls K C ∧ NoAttr K C f ∧ fs.lookup f = some v ∧ Q v H
def kSfld (K : PySem.W.Frag) (D : Ends) (σ : L2.St) (f : Str) (y : V) : V → Hp → Prop := fun x H => ∃ a C dx fs, x = .ref a ∧ H a = some (.ins C dx fs) ∧ Cls K C ∧ NoAttr K C f ∧ fs.length < 1000 ∧
  D.nx σ (upd H a (.ins C dx (putF f y fs)))
def kMeth (C : Addr) (m : Str) (sp : Sp) (dvs : List V) (E : XK) (σ : L2.St) (t : TA) (Q : V → Hp → Prop) : V → Hp → Prop := fun x H => ∃ a dx fs, x = .ref a ∧ H a = some (.ins C dx fs) ∧ fs.lookup m = none ∧ t σ H fun vs H2 => sp (x :: (vs ++ dvs)) H2 Q E
def kTup (Q : V → Hp → Prop) : List V → Hp → Prop := fun xs H => xs.length ≤ sizeLine ∧ ∀ p, H p = none → Q (.ref p) (upd H p (.tup xs))
def kLst (Q : V → Hp → Prop) : List V → Hp → Prop := fun xs H => xs.length ≤ sizeLine ∧ ∀ p, H p = none → Q (.ref p) (upd H p (.lst xs))
def rLen (K : PySem.W.Frag) : List V → Hp → (V → Hp → Prop) → Prop := fun xs H Q => ∃ p ys, xs = [.ref p] ∧ (SqL K H p ys ∨ SqT K H p ys) ∧ Q (.int ys.length) H
theorem c_len {X : Cx} : CallR X (.builtin "len") (rLen X.K) := call_len_seq
def rInt : List V → Hp → (V → Hp → Prop) → Prop := fun xs H Q => (∃ i, xs = [.int i] ∧ Q (.int i) H) ∨ ∃ k, xs = [.bl k] ∧ Q (.int (if k then 1 else 0)) H
theorem c_int {X : Cx} : CallR X (.type "int") rInt := call_int1
def rListOf (K : PySem.W.Frag) : List V → Hp → (V → Hp → Prop) → Prop := fun xs H Q => ∃ p ys, xs = [.ref p] ∧ (SqL K H p ys ∨ SqT K H p ys) ∧ ∀ l, H l = none → Q (.ref l) (upd H l (.lst ys))
theorem c_list {X : Cx} : CallR X (.type "list") (rListOf X.K) := call_list_of
def rTupOf (K : PySem.W.Frag) : List V → Hp → (V → Hp → Prop) → Prop := fun xs H Q => ∃ p ys, xs = [.ref p] ∧ ((SqL K H p ys ∧ ∀ l, H l = none → Q (.ref l) (upd H l (.tup ys))) ∨ (SqT K H p ys ∧ Q (.ref p) H))
theorem c_tuple {X : Cx} : CallR X (.type "tuple") (rTupOf X.K) := call_tuple_of
/-! the same rules within a comprehension: the written part by its own name -/
section
variable {X : Cx}
theorem c_listK (K : PySem.W.Frag) (h : X.K = K) : CallR X (.type "list") (rListOf K) := by subst h; exact c_list
theorem c_tupleK (K : PySem.W.Frag) (h : X.K = K) : CallR X (.type "tuple") (rTupOf K) := by subst h; exact c_tuple
theorem c_lenK (K : PySem.W.Frag) (h : X.K = K) : CallR X (.builtin "len") (rLen K) := by subst h; exact c_len
theorem ix_listK (K : PySem.W.Frag) (h : X.K = K) : IxR X (rIxL K) := by subst h; exact ix_list
theorem ix_tupK (K : PySem.W.Frag) (h : X.K = K) : IxR X (rIxT K) := by subst h; exact ix_tup
theorem op_in_seqK (K : PySem.W.Frag) (h : X.K = K) : OpR X (compareOp .In) (rIn K false) := by subst h; exact op_in_seq
theorem op_notIn_seqK (K : PySem.W.Frag) (h : X.K = K) : OpR X (compareOp .NotIn) (rIn K true) := by subst h; exact op_notIn_seq
theorem pe_fldK (K : PySem.W.Frag) (h : X.K = K) {e : Expr} {f : Str} {pos : Pos} {ta : TE} (he : PE X e ta) (hb : attributeBase e f X.env (eval e X.env) = eval e X.env) : PE X (.Attribute e f pos) (tFld K ta f) := by subst h; exact pe_fld he hb
end
section
variable {σ : L2.St} {H : Hp} {D : Ends} {t u : TS} {te ta tb tc : TE} {g : TG} {c ct cu : TT} {Q : VK} {QB : Bool → Hp → Prop} {QS : L2.St → Hp → Prop} {QA : List V → Hp → Prop} {v x y : V} {K : PySem.W.Frag} {a p l : Addr} {xs ys : List V} {i j : Int} {b : Bool}
theorem r_seq (h : t { D with nx := u D } σ H) : tSeq t u D σ H := h
theorem r_cut (Mid : L2.St → Hp → Prop) (h1 : t { D with nx := Mid } σ H) (h2 : ∀ σ' H', Mid σ' H' → u D σ' H') : C8.tCut t u D σ H := ⟨Mid, h1, h2⟩
/-- a test with nothing kept behind it -/
theorem r_cutS (h1 : t { D with nx := fun σ' H' => σ = σ' ∧ H = H' } σ H) (h2 : u D σ H) : C8.tCut t u D σ H := ⟨_, h1, fun _ _ ⟨e1, e2⟩ => by subst e1; subst e2; exact h2⟩
/-- .. but a heap that grew -/
theorem r_cutH (h1 : t { D with nx := fun σ' H' => σ = σ' ∧ L2.Same H H' } σ H) (h2 : ∀ H', L2.Same H H' → u D σ H') : C8.tCut t u D σ H := ⟨_, h1, fun _ _ ⟨e1, e2⟩ => by subst e1; exact h2 _ e2⟩
theorem r_asg (h : te σ H fun x H1 => g x σ H1 D.nx) : tAsg te g D σ H := h
theorem r_drop (h : te σ H fun _ H1 => D.nx σ H1) : tDrop te D σ H := h
theorem r_ret (h : te σ H D.rt) : tRet te D σ H := h
theorem r_ifs (h : c σ H fun b H1 => if b = true then t D σ H1 else u D σ H1) : tIfS c t u D σ H := h
theorem r_next (h : D.nx σ H) : tNext D σ H := h
theorem r_gname {n : Nat} (h : QS (σ.set n (some v)) H) : gName n v σ H QS := h
theorem r_gtup {n : Nat} {t : TGs} (hx : SqT K H a xs) (hl : xs.length = n) (h : t xs σ H QS) : gTup K n t (.ref a) σ H QS := ⟨a, xs, rfl, hx, hl, h⟩
theorem r_gunl {n : Nat} {t : TGs} (hx : SqL K H a xs) (hl : xs.length = n) (h : t xs σ H QS) : gUnl K n t (.ref a) σ H QS := ⟨a, xs, rfl, hx, hl, h⟩
theorem r_chain {r r' : R2} (h : ta σ H fun x H1 => tb σ H1 fun y H2 => r x y H2 fun z H3 => ∃ k, z = .bl k ∧ (if k = true then tc σ H3 fun w' H4 => r' y w' H4 Q else Q (.bl false) H3)) : tChain r r' ta tb tc σ H Q := h
theorem r_sfldL {C dx : Addr} {fs : List (Str × V)} {f : Str} (h : H a = some (.ins C dx fs)) (hc : Cls K C) (hn : NoAttr K C f) (hl : fs.length < 1000) (q : D.nx σ (upd H a (.ins C dx (putF f y fs)))) : kSfld K D σ f y (.ref a) H := ⟨a, C, dx, fs, rfl, h, hc, hn, hl, q⟩
theorem r_gmap {α : Type} {f : α → V} {y : α} {r : List α} {t : TG} {u : TGs} (h : t (f y) σ H fun σ' H' => u (List.map f r) σ' H' QS) : gCons t u (List.map f (y :: r)) σ H QS := ⟨_, _, rfl, h⟩
theorem r_gmapn {α : Type} {f : α → V} (h : QS σ H) : gNil (List.map f []) σ H QS := ⟨rfl, h⟩
theorem r_gnil (h : QS σ H) : gNil [] σ H QS := ⟨rfl, h⟩
theorem r_gcons {t : TG} {u : TGs} {r : List V} (h : t v σ H fun σ' H' => u r σ' H' QS) : gCons t u (v :: r) σ H QS := ⟨v, r, rfl, h⟩
theorem r_gsub {t : TSet} (h : ta σ H fun o H1 => tb σ H1 fun i H2 => t o i v H2 fun H3 => QS σ H3) : gSub ta tb t v σ H QS := h
theorem r_setl {k : Int} {n : Nat} {R : Hp → Prop} (h1 : H p = some (.lst xs)) (h2 : ixN xs.length k = some n) (q : R (upd H p (.lst (xs.set n v)))) : rSetL (.ref p) (.int k) v H R := ⟨p, xs, k, n, rfl, rfl, h1, h2, q⟩
theorem r_var {n : Nat} (h : σ[n]? = some (some v)) (q : Q v H) : tVar n σ H Q := ⟨v, h, q⟩
theorem r_c (q : Q v H) : tC v σ H Q := q
theorem r_op {r : R2} (h : ta σ H fun x H1 => tb σ H1 fun y H2 => r x y H2 Q) : tOp r ta tb σ H Q := h
theorem r_un {r : V → Hp → VK → Prop} (h : ta σ H fun x H1 => r x H1 Q) : tUn r ta σ H Q := h
theorem r_rI {C : Int → Int → Prop} {g : Int → Int → V} (hc : C i j) (q : Q (g i j) H) : rI C g (.int i) (.int j) H Q := ⟨i, j, rfl, rfl, hc, q⟩
theorem r_mod (hc : 0 < j) (q : ∀ z : Int, z = i % j → 0 ≤ z → z < j → Q (.int z) H) : rI (fun _ j => 0 < j) (fun i j => .int (i % j)) (.int i) (.int j) H Q :=
  ⟨i, j, rfl, rfl, hc, q _ rfl (Int.emod_nonneg i (by omega)) (Int.emod_lt_of_pos i hc)⟩
theorem r_rI0 {g : Int → Int → V} (q : Q (g i j) H) : rI0 g (.int i) (.int j) H Q := ⟨i, j, rfl, rfl, q⟩
theorem r_rU {g : Int → V} (q : Q (g i) H) : rU g (.int i) H Q := ⟨i, rfl, q⟩
theorem r_eq (hs : scal x y = true) (q : Q (.bl (decide (x = y))) H) : rEq x y H Q := ⟨hs, q⟩
theorem r_ne (hs : scal x y = true) (q : Q (.bl (!decide (x = y))) H) : rNe x y H Q := ⟨hs, q⟩
theorem r_eqi (q : Q (.bl (decide (i = j))) H) : rEq (.int i) (.int j) H Q := ⟨rfl, by
  rw [show decide (V.int i = V.int j) = decide (i = j) from by by_cases e : i = j <;> simp [e]]; exact q⟩
theorem r_nei (q : Q (.bl (!decide (i = j))) H) : rNe (.int i) (.int j) H Q := ⟨rfl, by
  rw [show decide (V.int i = V.int j) = decide (i = j) from by by_cases e : i = j <;> simp [e]]; exact q⟩
theorem r_eqs {s t : Str} (q : Q (.bl (decide (s = t))) H) : rEq (.str s) (.str t) H Q := ⟨rfl, by
  rw [show decide (V.str s = V.str t) = decide (s = t) from by by_cases e : s = t <;> simp [e]]; exact q⟩
theorem r_nes {s t : Str} (q : Q (.bl (!decide (s = t))) H) : rNe (.str s) (.str t) H Q := ⟨rfl, by
  rw [show decide (V.str s = V.str t) = decide (s = t) from by by_cases e : s = t <;> simp [e]]; exact q⟩
theorem r_adds {s t : Str} (hz : s.length + t.length ≤ 1000000) (q : Q (.str (s ++ t)) H) : (fun (x y : V) (H : Hp) (Q : VK) => ∃ i j, x = .str i ∧ y = .str j ∧ i.length + j.length ≤ sizeLine ∧ Q (.str (i ++ j)) H) (.str s) (.str t) H Q := ⟨s, t, rfl, rfl, by rw [sz]; omega, q⟩
theorem r_nonR {A B : Prop} (h : A) : if (!decide (V.ref a = V.non)) = true then A else B := iteT' h
theorem r_nonN {A B : Prop} (h : B) : if (!decide (V.non = V.non)) = true then A else B := iteF' h
theorem r_isR {A B : Prop} (h : B) : if decide (V.ref a = V.non) = true then A else B := iteF' h
theorem r_isNN {A B : Prop} (h : A) : if decide (V.non = V.non) = true then A else B := iteT' h
theorem r_nonI {A B : Prop} (h : A) : if (!decide (V.int i = V.non)) = true then A else B := iteT' h
theorem r_isI {A B : Prop} (h : B) : if decide (V.int i = V.non) = true then A else B := iteF' h
theorem r_eqb {a b : Bool} (q : Q (.bl (decide (a = b))) H) : rEq (.bl a) (.bl b) H Q := ⟨rfl, by
  rw [show decide (V.bl a = V.bl b) = decide (a = b) from by by_cases e : a = b <;> simp [e]]; exact q⟩
theorem r_isS {A B : Prop} {z : Str} (h : B) : if decide (V.str z = V.non) = true then A else B := iteF' h
theorem r_nonS {A B : Prop} {z : Str} (h : A) : if (!decide (V.str z = V.non)) = true then A else B := iteT' h
theorem r_nil (q : QA [] H) : tNil σ H QA := q
theorem r_cons {tr : TA} (h : ta σ H fun x H1 => tr σ H1 fun xs H2 => QA (x :: xs) H2) : tCons ta tr σ H QA := h
theorem r_cb {r : List V → Hp → VK → Prop} {t : TA} (h : t σ H fun vs H1 => r vs H1 Q) : tCB r t σ H Q := h
theorem r_call {sp : Sp} {dvs : List V} {E : XK} {t : TA} (h : t σ H fun vs H1 => sp (vs ++ dvs) H1 Q E) : tCall sp dvs E t σ H Q := h
theorem r_make {C : Addr} {sp : Sp} {dvs : List V} {E : XK} {t : TA} (h : t σ H fun vs H1 => ∀ x dx, H1 x = none → H1 dx = none → dx ≠ x →
  sp (.ref x :: (vs ++ dvs)) (upd (upd H1 dx (.own x)) x (.ins C dx [])) (fun v H2 => v = .non ∧ Q (.ref x) H2) E) : tMake C sp dvs E t σ H Q := h
theorem r_meth {C : Addr} {m : Str} {sp : Sp} {dvs : List V} {E : XK} {t : TA} (h : ta σ H (kMeth C m sp dvs E σ t Q)) : tMeth C m sp dvs E ta t σ H Q := h
theorem r_methL {C : Addr} {dx : Addr} {fs : List (Str × V)} {m : Str} {sp : Sp} {dvs : List V} {E : XK} {t : TA} (h : H a = some (.ins C dx fs)) (hl : fs.lookup m = none) (q : t σ H fun vs H2 => sp (.ref a :: (vs ++ dvs)) H2 Q E) : kMeth C m sp dvs E σ t Q (.ref a) H := ⟨a, dx, fs, rfl, h, hl, q⟩
theorem r_fld {f : Str} (h : ta σ H (kFld K f Q)) : tFld K ta f σ H Q := h
theorem r_fldL {C dx : Addr} {fs : List (Str × V)} {f : Str} (h : H a = some (.ins C dx fs)) (hc : Cls K C) (hn : NoAttr K C f) (hl : fs.lookup f = some v) (q : Q v H) : kFld K f Q (.ref a) H := ⟨a, C, dx, fs, v, rfl, h, hc, hn, hl, q⟩
theorem r_sfld {f : Str} (h : tb σ H fun y H1 => ta σ H1 (kSfld K D σ f y)) : sFld K ta tb f D σ H := h
theorem r_test (h : te σ H (kTest QB)) : tTest te σ H QB := h
theorem r_tB (h : te σ H (kTest QB)) : tB te σ H QB := h
theorem r_exb (q : QB b H) : kTest QB (.bl b) H := ⟨b, rfl, q⟩
theorem r_and (h : ct σ H fun c H1 => if c = true then cu σ H1 QB else QB false H1) : tAnd ct cu σ H QB := h
theorem r_or (h : ct σ H fun c H1 => if c = true then QB true H1 else cu σ H1 QB) : tOr ct cu σ H QB := h
theorem r_not (h : ct σ H fun c H1 => QB (!c) H1) : tNot ct σ H QB := h
theorem r_andV (h : ta σ H fun x H1 => ∃ c, x = .bl c ∧ if c = true then tb σ H1 Q else Q (.bl false) H1) : tAndV ta tb σ H Q := h
theorem r_orV (h : ta σ H fun x H1 => ∃ c, x = .bl c ∧ if c = true then Q (.bl true) H1 else tb σ H1 Q) : tOrV ta tb σ H Q := h
theorem r_exbP {A : Bool → Prop} (q : A b) : ∃ c, V.bl b = .bl c ∧ A c := ⟨b, rfl, q⟩
theorem r_notV (h : ta σ H fun x H1 => ∃ c, x = .bl c ∧ Q (.bl (!c)) H1) : tNotV ta σ H Q := h
theorem r_tif (h : c σ H fun b H1 => if b = true then ta σ H1 Q else tb σ H1 Q) : tIf c ta tb σ H Q := h
theorem r_isN (h : ta σ H fun x H1 => Q (.bl (decide (x = .non))) H1) : tIsN ta σ H Q := h
theorem r_notN (h : ta σ H fun x H1 => Q (.bl (!decide (x = .non))) H1) : tNotN ta σ H Q := h
theorem r_tup {t : TA} (h : t σ H (kTup Q)) : tTup t σ H Q := h
theorem r_lst {t : TA} (h : t σ H (kLst Q)) : tLst t σ H Q := h
theorem r_ktup (hl : xs.length ≤ sizeLine) (h : ∀ p, H p = none → Q (.ref p) (upd H p (.tup xs))) : kTup Q xs H := ⟨hl, h⟩
theorem r_klst (hl : xs.length ≤ sizeLine) (h : ∀ p, H p = none → Q (.ref p) (upd H p (.lst xs))) : kLst Q xs H := ⟨hl, h⟩
theorem r_ixl (h : SqL K H p xs) (e : atI xs i = some v) (q : Q v H) : rIxL K (.ref p) (.int i) H Q := ⟨p, xs, i, v, rfl, rfl, h, e, q⟩
theorem r_ixt (h : SqT K H p xs) (e : atI xs i = some v) (q : Q v H) : rIxT K (.ref p) (.int i) H Q := ⟨p, xs, i, v, rfl, rfl, h, e, q⟩
theorem r_int (q : Q (.int i) H) : rInt [V.int i] H Q := .inl ⟨i, rfl, q⟩
theorem r_lenl (h : SqL K H p xs) (q : Q (.int xs.length) H) : rLen K [V.ref p] H Q := ⟨p, xs, rfl, .inl h, q⟩
theorem r_lent (h : SqT K H p xs) (q : Q (.int xs.length) H) : rLen K [V.ref p] H Q := ⟨p, xs, rfl, .inr h, q⟩
theorem r_listl (h : SqL K H p xs) (q : ∀ l, H l = none → Q (.ref l) (upd H l (.lst xs))) : rListOf K [V.ref p] H Q := ⟨p, xs, rfl, .inl h, q⟩
theorem r_listt (h : SqT K H p xs) (q : ∀ l, H l = none → Q (.ref l) (upd H l (.lst xs))) : rListOf K [V.ref p] H Q := ⟨p, xs, rfl, .inr h, q⟩
theorem r_tupl (h : SqL K H p xs) (q : ∀ l, H l = none → Q (.ref l) (upd H l (.tup xs))) : rTupOf K [V.ref p] H Q := ⟨p, xs, rfl, .inl ⟨h, q⟩⟩
theorem r_tupt (h : SqT K H p xs) (q : Q (.ref p) H) : rTupOf K [V.ref p] H Q := ⟨p, xs, rfl, .inr ⟨h, q⟩⟩
theorem r_in {neg : Bool} (h : SqL K H p xs ∨ SqT K H p xs) (fx : flatV x = true) (fs : xs.all flatV = true) (q : Q (.bl (if neg = true then !inV x xs else inV x xs)) H) : rIn K neg x (.ref p) H Q := ⟨p, xs, rfl, h, fx, fs, q⟩
theorem r_bm {T : String} {r : V → List V → Hp → VK → Prop} {t : TA} (h : ta σ H fun x H1 => tyV K T x H1 ∧ t σ H1 fun xs H2 => r x xs H2 Q) : tBM K T r ta t σ H Q := h
theorem r_bm0 {T : String} {r : V → List V → Hp → VK → Prop} (h : ta σ H fun x H1 => tyV K T x H1 ∧ r x [] H1 Q) : tBM0 K T r ta σ H Q := h
theorem r_tyl {A : Prop} (h : SqL K H l xs) (q : A) : tyV K "list" (.ref l) H ∧ A := ⟨.inl ⟨rfl, _, h⟩, q⟩
theorem r_app (h : H l = some (.lst xs)) (hl : xs.length < sizeLine) (q : Q .non (upd H l (.lst (xs ++ [v])))) : rAppend (.ref l) [v] H Q := ⟨l, xs, v, rfl, rfl, h, hl, q⟩
theorem r_isi {c : V} {t u : Value} (hc : ClsV c u) (ht : TyX K H x t) (hk : PySem.W.kitOne K t u = some b) (q : Q (.bl b) H) : rIsi K [x, c] H Q := ⟨x, c, t, u, b, rfl, hc, ht, hk, q⟩
theorem r_isb {a b : Bool} (q : Q (.bl (decide (a = b))) H) : rIsB (.bl a) (.bl b) H Q := ⟨a, b, rfl, rfl, q⟩
theorem r_notb {a b : Bool} (q : Q (.bl (!decide (a = b))) H) : rNotB (.bl a) (.bl b) H Q := ⟨a, b, rfl, rfl, q⟩
theorem r_eqd {d e : PyData} (h1 : Dp K H x d) (h2 : Dp K H y e) (s1 : SeqAt.shaped d = true) (s2 : SeqAt.shaped e = true) (q : Q (.bl (PyData.eqv d e)) H) : rEqD K x y H Q := ⟨d, e, h1, h2, s1, s2, q⟩
theorem r_ned {d e : PyData} (h1 : Dp K H x d) (h2 : Dp K H y e) (s1 : SeqAt.shaped d = true) (s2 : SeqAt.shaped e = true) (q : Q (.bl (!PyData.eqv d e)) H) : rNeD K x y H Q := ⟨d, e, h1, h2, s1, s2, q⟩
theorem r_rep {k : Int} (h : H l = some (.lst xs)) (h1 : -(2 ^ 63) ≤ k) (h2 : k < 2 ^ 63) (hz : xs.length * k.toNat ≤ sizeLine) (q : ∀ p, H p = none → Q (.ref p) (upd H p (.lst (List.replicate k.toNat xs).flatten))) : rRep (.ref l) (.int k) H Q := ⟨l, k, xs, rfl, rfl, h, h1, h2, hz, q⟩
theorem r_rep1 {k : Int} (h : H l = some (.lst [v])) (h1 : -1000000 ≤ k) (h2 : k ≤ 1000000) (q : ∀ p, H p = none → Q (.ref p) (upd H p (.lst (List.replicate k.toNat v)))) : rRep (.ref l) (.int k) H Q := ⟨l, k, [v], rfl, rfl, h, by omega, by omega, by rw [sz]; show 1 * _ ≤ _; omega, by
  rw [show (List.replicate k.toNat [v]).flatten = List.replicate k.toNat v from by
    generalize k.toNat = n
    induction n with
    | zero => rfl
    | succ n ih => rw [List.replicate_succ, List.flatten_cons, ih, List.replicate_succ]; rfl]
  exact q⟩
theorem r_cat (h : H l = some (.lst xs)) (h' : H p = some (.lst ys)) (hz : xs.length + ys.length ≤ sizeLine) (q : ∀ r, H r = none → Q (.ref r) (upd H r (.lst (xs ++ ys)))) : rCat (.ref l) (.ref p) H Q := ⟨l, p, xs, ys, rfl, rfl, h, h', hz, q⟩
theorem r_aug {n : Nat} {ti : TIp} (h : σ[n]? = some (some x)) (q : te σ H fun y H1 => ti x y H1 fun z H2 => D.nx (σ.set n (some z)) H2) : tAug n te ti D σ H := ⟨x, h, q⟩
theorem r_ipI {f : Int → Int → Int} (q : Q (.int (f i j)) H) : ipI f (.int i) (.int j) H Q := ⟨i, j, rfl, rfl, q⟩
theorem r_sorted {ns : List Int} (h : SqL K H a (ns.map V.int)) (h64 : ns.length < 64) (q : ∀ (ns' : List Int) (p : Addr), ns'.Perm ns → ns'.Pairwise (· ≤ ·) → H p = none → Q (.ref p) (upd H p (.lst (ns'.map V.int)))) : rSorted K [.ref a] H Q := ⟨a, ns, rfl, h, h64, q⟩
end
/-! slices, texts -/
def kPart (Q : Option Int → Hp → Prop) : V → Hp → Prop := fun x H => ∃ i, x = .int i ∧ Q (some i) H
section
variable {σ : L2.St} {H : Hp} {te : TE} {tl th : TO} {Q : V → Hp → Prop} {QO : Option Int → Hp → Prop} {K : PySem.W.Frag} {a : Addr} {xs : List V} {lo hi : Option Int} {i : Int} {z : Str}
theorem r_sl {r : V → Option Int → Option Int → Hp → VK → Prop} (h : te σ H fun x H1 => tl σ H1 fun l H2 => th σ H2 fun u H3 => r x l u H3 Q) : tSl r te tl th σ H Q := h
theorem r_noP (q : QO none H) : tNoPart σ H QO := q
theorem r_part (h : te σ H (kPart QO)) : tPart te σ H QO := h
theorem r_kPart (q : QO (some i) H) : kPart QO (.int i) H := ⟨i, rfl, q⟩
theorem r_slS (hl : z.length ≤ 1000000) (q : Q (.str (cutS z lo hi)) H) : rSlS (.str z) lo hi H Q := ⟨z, rfl, by rw [sz]; omega, q⟩
theorem r_slL (h : SqL K H a xs) (q : ∀ p, H p = none → Q (.ref p) (upd H p (.lst (cutV xs lo hi)))) : rSlL K (.ref a) lo hi H Q := ⟨a, xs, rfl, h, q⟩
end
/-! loops and comprehensions -/
def kLc (g : TG) (tt : TT) (te : TE) (vs : List Nat) (σ : L2.St) (Q : V → Hp → Prop) : It → Hp → Prop := fun J H1 => ∀ D, H1 D = none → ∃ W : Nat → Nat → Hp → Prop, (∃ m, W 0 m (upd H1 D (.lst []))) ∧ ∀ i m H, W i m H →
  (J.stop i H ∧ Q (.ref D) H) ∨ (J.go i H ∧ ∃ Nx : Hp → Prop, (∀ H', Nx H' → ∃ m', m' < m ∧ W (i + 1) m' H') ∧ ∀ x H', J.yld i H x H' → g x (wipe σ vs) H' fun σ2 H2 => wipe σ2 vs = wipe σ vs ∧ tt σ2 H2 fun b H3 =>
    if b = true then te σ2 H3 fun y H4 => ∃ acc, H4 D = some (.lst acc) ∧ acc.length < sizeLine ∧ Nx (upd H4 D (.lst (acc ++ [y]))) else Nx H3)
def kR1 (R : It → Hp → Prop) : List V → Hp → Prop := fun vs H1 => ∃ j : Int, vs = [.int j] ∧ -(2 ^ 62) ≤ j ∧ j < 2 ^ 62 ∧ R (Itr 0 j.toNat) H1
def kR2 (R : It → Hp → Prop) : List V → Hp → Prop := fun vs H1 => ∃ i j : Int, vs = [.int i, .int j] ∧ (-(2 ^ 62) ≤ i ∧ i < 2 ^ 62 ∧ -(2 ^ 62) ≤ j ∧ j < 2 ^ 62) ∧ R (Itr i (j - i).toNat) H1
def kIl (K : PySem.W.Frag) (R : It → Hp → Prop) : V → Hp → Prop := fun x H1 => ∃ a, x = .ref a ∧ (∃ xs, SqL K H1 a xs) ∧ R (Itl K a) H1
def kIt (K : PySem.W.Frag) (R : It → Hp → Prop) : V → Hp → Prop := fun x H1 => ∃ a, x = .ref a ∧ (∃ xs, SqT K H1 a xs) ∧ R (Itt K a) H1
def kFor (g : TG) (tb : TS) (D : Ends) (σ : L2.St) : It → Hp → Prop := fun J H1 => ∃ W : Nat → Nat → L2.St → Hp → Prop, (∃ m, W 0 m σ H1) ∧ ∀ i m σ H, W i m σ H →
  (J.stop i H ∧ D.nx σ H) ∨ (J.go i H ∧ ∃ N : L2.St → Hp → Prop, (∀ σ' H', N σ' H' → ∃ m', m' < m ∧ W (i + 1) m' σ' H') ∧ ∀ x H', J.yld i H x H' → g x σ H' fun σ2 H2 => tb { D with nx := N, ct := N, bk := D.nx } σ2 H2)
section
variable {σ : L2.St} {H : Hp} {D : Ends} {te : TE} {ta : TA} {g : TG} {tt : TT} {tb : TS} {wi : TI} {vs : List Nat} {Q : V → Hp → Prop} {R : It → Hp → Prop} {K : PySem.W.Frag} {a : Addr} {xs : List V} {i j : Int}
theorem r_lc (h : wi σ H (kLc g tt te vs σ Q)) : tLc wi g tt te vs σ H Q := h
theorem r_for (h : wi σ H (kFor g tb D σ)) : tFor wi g tb D σ H := h
theorem r_irng1 (h : ta σ H (kR1 R)) : iRng1 ta σ H R := h
theorem r_irng2 (h : ta σ H (kR2 R)) : iRng2 ta σ H R := h
theorem r_ilist (h : te σ H (kIl K R)) : iList K te σ H R := h
theorem r_itup (h : te σ H (kIt K R)) : iTup K te σ H R := h
theorem r_kR1 (h1 : -(2 ^ 62) ≤ j) (h2 : j < 2 ^ 62) (h : R (Itr 0 j.toNat) H) : kR1 R [.int j] H := ⟨j, rfl, h1, h2, h⟩
theorem r_kR2 (h1 : -(2 ^ 62) ≤ i ∧ i < 2 ^ 62 ∧ -(2 ^ 62) ≤ j ∧ j < 2 ^ 62) (h : R (Itr i (j - i).toNat) H) : kR2 R [.int i, .int j] H := ⟨i, j, rfl, h1, h⟩
theorem r_kIl (h1 : SqL K H a xs) (h : R (Itl K a) H) : kIl K R (.ref a) H := ⟨a, rfl, ⟨_, h1⟩, h⟩
theorem r_kIt (h1 : SqT K H a xs) (h : R (Itt K a) H) : kIt K R (.ref a) H := ⟨a, rfl, ⟨_, h1⟩, h⟩
theorem r_forR {lo : Int} {n : Nat} (Pv : Nat → L2.St → Hp → Prop) (h0 : Pv 0 σ H)
    (hs : ∀ i σ H, i < n → Pv i σ H → g (.int (lo + i)) σ H fun σ2 H2 => tb { D with nx := Pv (i + 1), ct := Pv (i + 1), bk := D.nx } σ2 H2) (hd : ∀ σ H, Pv n σ H → D.nx σ H) : kFor g tb D σ (Itr lo n) H := for_range Pv h0 hs hd
theorem r_forL (Pv : Nat → L2.St → Hp → Prop) (h0 : Pv 0 σ H) (hl : ∀ i σ H, i ≤ xs.length → Pv i σ H → SqL K H a xs)
    (hs : ∀ i x σ H, xs[i]? = some x → Pv i σ H → g x σ H fun σ2 H2 => tb { D with nx := Pv (i + 1), ct := Pv (i + 1), bk := D.nx } σ2 H2) (hd : ∀ σ H, Pv xs.length σ H → D.nx σ H) : kFor g tb D σ (Itl K a) H := for_list Pv h0 hl hs hd
theorem r_forT (Pv : Nat → L2.St → Hp → Prop) (h0 : Pv 0 σ H) (hl : ∀ i σ H, i ≤ xs.length → Pv i σ H → SqT K H a xs)
    (hs : ∀ i x σ H, xs[i]? = some x → Pv i σ H → g x σ H fun σ2 H2 => tb { D with nx := Pv (i + 1), ct := Pv (i + 1), bk := D.nx } σ2 H2) (hd : ∀ σ H, Pv xs.length σ H → D.nx σ H) : kFor g tb D σ (Itt K a) H := for_tup Pv h0 hl hs hd
/-- [e for x in range], e an int -/
theorem r_lcI {lo : Int} {n slot : Nat} (P : Nat → Int → Prop) (hn : n ≤ 100000) (hv : vs = [slot])
    (hs : ∀ (i : Nat) (H' : Hp), i < n → L2.Same H H' → ∀ R : V → Hp → Prop, (∀ z : Int, P i z → R (.int z) H') → te ((wipe σ vs).set slot (some (.int (lo + i)))) H' R)
    (q : ∀ (H' : Hp) (l : Addr) (zs : List Int), L2.Same H H' → H l = none → H' l = some (.lst (zs.map V.int)) → zs.length = n → (∀ (i : Nat) (z : Int), zs[i]? = some z → P i z) → Q (.ref l) H') :
    kLc (gName slot) tYes te vs σ Q (Itr lo n) H := by
  intro L hL
  have hw : ∀ (τ : L2.St) (x : V), wipe (τ.set slot (some x)) [slot] = wipe τ [slot] := fun τ x => by simp [wipe, List.set_set]
  have hw2 : wipe (wipe σ vs) vs = wipe σ vs := by subst hv; simp [wipe, List.set_set]
  refine lc_range (fun i H' => ∃ zs : List Int, zs.length = i ∧ H' L = some (.lst (zs.map V.int)) ∧ L2.Same H H' ∧ ∀ (k : Nat) (z : Int), zs[k]? = some z → P k z) ⟨[], rfl, upd_same, fun b o e => by rw [upd_ne (ne_of_none e hL)]; exact e, fun k z e => by simp at e⟩ ?_ ?_
  · rintro i H' hi ⟨zs, el, eL, s, hp⟩
    refine ⟨?_, ?_⟩
    · subst hv
      rw [hw]
      exact hw2
    · show te ((wipe σ vs).set slot (some (.int (lo + i)))) H' _
      refine hs i H' hi s _ fun z hz => ⟨_, eL, ?_, zs ++ [z], ?_, ?_, ?_, ?_⟩
      · rw [List.length_map, el]
        exact Nat.lt_of_lt_of_le (Nat.lt_of_lt_of_le hi hn) (by decide)
      · rw [List.length_append, el]; rfl
      · rw [upd_same, List.map_append]; rfl
      · intro b o e
        rw [upd_ne (ne_of_none e hL)]
        exact s _ _ e
      · intro k y e
        rw [List.getElem?_append] at e
        split at e
        · exact hp k y e
        · rename_i hk
          have ek : k = zs.length := by
            have := (List.getElem?_eq_some_iff.mp e).1
            simp at this
            omega
          subst ek
          simp at e
          rw [el, ← e]
          exact hz
  · rintro H' ⟨zs, el, eL, s, hp⟩
    exact q H' L zs s hL eL el hp
end
/-! named readings for texts, the lesser and the greater of two -/
def rLenS : List V → Hp → VK → Prop := fun xs H Q => ∃ z, xs = [.str z] ∧ z.length ≤ sizeLine ∧ Q (.int z.length) H
theorem c_lenS {X : Cx} : CallR X (.builtin "len") rLenS := call_len_str
def rMin2 : List V → Hp → VK → Prop := fun xs H Q => ∃ i j, xs = [.int i, .int j] ∧ Q (.int (if j < i then j else i)) H
theorem c_min2 {X : Cx} (hc : X.calm = true) : CallR X (.builtin "min") rMin2 := call_min2 hc
def rMax2 : List V → Hp → VK → Prop := fun xs H Q => ∃ i j, xs = [.int i, .int j] ∧ Q (.int (if j > i then j else i)) H
theorem c_max2 {X : Cx} (hc : X.calm = true) : CallR X (.builtin "max") rMax2 := call_max2 hc
def rAddT : R2 := fun x y H Q => ∃ i j, x = .str i ∧ y = .str j ∧ i.length + j.length ≤ sizeLine ∧ Q (.str (i ++ j)) H
theorem op_addT {X : Cx} : OpR X (binaryOp .Add) rAddT := op_add_str
section
variable {H : Hp} {Q : V → Hp → Prop} {z y : Str} {i j : Int}
theorem r_lenS (hl : z.length ≤ 1000000) (q : Q (.int z.length) H) : rLenS [.str z] H Q := ⟨z, rfl, by rw [sz]; omega, q⟩
theorem r_min2 (q : ∀ m : Int, m ≤ i → m ≤ j → m = i ∨ m = j → Q (.int m) H) : rMin2 [.int i, .int j] H Q := ⟨i, j, rfl, by split <;> exact q _ (by omega) (by omega) (by omega)⟩
theorem r_max2 (q : ∀ m : Int, i ≤ m → j ≤ m → m = i ∨ m = j → Q (.int m) H) : rMax2 [.int i, .int j] H Q := ⟨i, j, rfl, by split <;> exact q _ (by omega) (by omega) (by omega)⟩
theorem r_addT (hl : z.length + y.length ≤ 1000000) (q : Q (.str (z ++ y)) H) : rAddT (.str z) (.str y) H Q := ⟨z, y, rfl, rfl, by rw [sz]; omega, q⟩
end
def kIstr (R : It → Hp → Prop) : V → Hp → Prop := fun x H1 => ∃ z, x = .str z ∧ R (Its z) H1
theorem r_istr {te : TE} {σ : L2.St} {H : Hp} {R : It → Hp → Prop} (h : te σ H (kIstr R)) : iStr te σ H R := h
theorem r_kIs {z : Str} {H : Hp} {R : It → Hp → Prop} (h : R (Its z) H) : kIstr R (.str z) H := ⟨z, rfl, h⟩
end Sg
/-! data behind values, as the heap grows -/
namespace Sg
open PySem L2
mutual
theorem Dp.mono {K : PySem.W.Frag} {H H' : Hp} (s : L2.Same H H') : ∀ (d : PyData) (v : V), Dp K H v d → Dp K H' v d
  | .none, _, h => by cases h; exact .non
  | .bool b, _, h => by cases h; exact .bl b
  | .int i, _, h => by cases h; exact .int i
  | .str x, _, h => by cases h; exact .str x
  | .list ds, _, h => by
    cases h with
    | lst hs ha => exact .lst (L2.Same.seq s hs) (DpAll.mono s ds _ ha)
  | .tuple ds, _, h => by
    cases h with
    | tup hs ha => exact .tup (Sg.Same.tup s hs) (DpAll.mono s ds _ ha)
  | .dict _, _, h => by cases h
theorem DpAll.mono {K : PySem.W.Frag} {H H' : Hp} (s : L2.Same H H') : ∀ (ds : List PyData) (vs : List V), DpAll K H vs ds → DpAll K H' vs ds
  | [], _, h => by cases h; exact .nil
  | d :: ds, _, h => by
    cases h with
    | cons h1 h2 => exact .cons (Dp.mono s d _ h1) (DpAll.mono s ds _ h2)
end
theorem DpAll.ints {K : PySem.W.Frag} {H : Hp} : ∀ ns : List Int, DpAll K H (ns.map V.int) (ns.map PyData.int)
  | [] => .nil
  | n :: ns => .cons (.int n) (DpAll.ints ns)
theorem DpAll.at {K : PySem.W.Frag} {H : Hp} : ∀ {vs : List V} {ds : List PyData}, DpAll K H vs ds → ∀ (i : Nat) (v : V), vs[i]? = some v → ∃ d, ds[i]? = some d ∧ Dp K H v d
  | _, _, .nil, i, v, e => by simp at e
  | _, _, .cons h t, 0, v, e => by simp at e; subst e; exact ⟨_, rfl, h⟩
  | _, _, .cons h t, i + 1, v, e => by
    obtain ⟨d, e1, h1⟩ := DpAll.at t i v (by simpa using e)
    exact ⟨d, by simpa using e1, h1⟩
theorem DpAll.length {K : PySem.W.Frag} {H : Hp} : ∀ {vs : List V} {ds : List PyData}, DpAll K H vs ds → vs.length = ds.length
  | _, _, .nil => rfl
  | _, _, .cons _ t => by simp [DpAll.length t]
/-- data that can be compared, at most n deep -/
def Fl (n : Nat) (d : PyData) : Prop := d.canLay0 = true ∧ d.depth ≤ n
theorem Fl.int (i : Int) (n : Nat) : Fl n (.int i) := ⟨by simp [PyData.canLay0], by simp [PyData.depth]⟩
theorem Fl.non (n : Nat) : Fl n .none := ⟨by simp [PyData.canLay0], by simp [PyData.depth]⟩
theorem Fl.bool (b : Bool) (n : Nat) : Fl n (.bool b) := ⟨by simp [PyData.canLay0], by simp [PyData.depth]⟩
theorem Fl.all {n : Nat} : ∀ {ds : List PyData}, (∀ d ∈ ds, Fl n d) → PyData.canLayAll0 ds = true ∧ PyData.depthAll ds ≤ n
  | [], _ => ⟨by simp [PyData.canLayAll0], by simp [PyData.depthAll]⟩
  | d :: ds, h => by
    obtain ⟨h1, h2⟩ := h d List.mem_cons_self
    obtain ⟨h3, h4⟩ := Fl.all (ds := ds) fun x hx => h x (List.mem_cons_of_mem _ hx)
    refine ⟨by simp [PyData.canLayAll0, h1, h3], ?_⟩
    simp only [PyData.depthAll]
    exact Nat.max_le.mpr ⟨h2, h4⟩
theorem Fl.tup {n : Nat} {ds : List PyData} (h : ∀ d ∈ ds, Fl n d) : Fl (n + 1) (.tuple ds) := by
  obtain ⟨h1, h2⟩ := Fl.all h
  exact ⟨by simp [PyData.canLay0, h1], by simp only [PyData.depth]; omega⟩
theorem Fl.lst {n : Nat} {ds : List PyData} (h : ∀ d ∈ ds, Fl n d) : Fl (n + 1) (.list ds) := by
  obtain ⟨h1, h2⟩ := Fl.all h
  exact ⟨by simp [PyData.canLay0, h1], by simp only [PyData.depth]; omega⟩
theorem Fl.mono {n m : Nat} {d : PyData} (h : Fl n d) (hm : n ≤ m) : Fl m d := ⟨h.1, Nat.le_trans h.2 hm⟩
theorem Fl.ints (ns : List Int) : Fl 1 (.tuple (ns.map PyData.int)) := Fl.tup fun d hd => by
  obtain ⟨i, _, rfl⟩ := List.mem_map.mp hd
  exact Fl.int i 0
theorem Fl.intl (ns : List Int) : Fl 1 (.list (ns.map PyData.int)) := Fl.lst fun d hd => by
  obtain ⟨i, _, rfl⟩ := List.mem_map.mp hd
  exact Fl.int i 0
theorem Fl.nil {n : Nat} : ∀ d ∈ ([] : List PyData), Fl n d := fun d h => by cases h
theorem Fl.cons {n : Nat} {d : PyData} {ds : List PyData} (h : Fl n d) (t : ∀ x ∈ ds, Fl n x) : ∀ x ∈ d :: ds, Fl n x := fun x hx => by
  rcases List.mem_cons.mp hx with rfl | hx
  · exact h
  · exact t x hx
theorem Fl.mapi {n : Nat} {ns : List Int} : ∀ d ∈ ns.map PyData.int, Fl n d := fun d hd => by
  obtain ⟨i, _, rfl⟩ := List.mem_map.mp hd
  exact Fl.int i n
theorem Fl.shaped {n : Nat} {d : PyData} (h : Fl n d) (hn : n ≤ 64 := by decide) : SeqAt.shaped d = true := by
  unfold SeqAt.shaped
  rw [h.1, decide_eq_true (Nat.le_trans h.2 hn)]
  rfl
theorem Fl.self {n : Nat} {d : PyData} (h : Fl n d) : PyData.eqv d d = true := SeqAt.eqv_refl d h.1
/-! lists of ints -/
theorem ixN_ok {n : Nat} {k : Int} (h0 : 0 ≤ k) (h1 : k < n) : ixN n k = some k.toNat := by unfold ixN; rw [if_pos h0, if_pos h1]
theorem at_ints {ts : List Int} {k : Int} (h0 : 0 ≤ k) (h1 : k < ts.length) : atI (ts.map V.int) k = some (.int (ts.getD k.toNat 0)) := by
  obtain ⟨n, rfl⟩ := Int.eq_ofNat_of_zero_le h0
  have hn : n < ts.length := by omega
  refine atI_nat ?_
  rw [List.getElem?_map, List.getElem?_eq_getElem hn, List.getD_eq_getElem?_getD, Int.toNat_natCast, List.getElem?_eq_getElem hn]
  rfl
theorem rep_ints (n : Nat) (z : Int) : (List.replicate n [V.int z]).flatten = (List.replicate n z).map V.int := by
  induction n with
  | zero => rfl
  | succ n ih => rw [List.replicate_succ, List.flatten_cons, ih, List.replicate_succ, List.map_cons]; rfl
theorem set_ints (ts : List Int) (n : Nat) (z : Int) : (ts.map V.int).set n (.int z) = (ts.set n z).map V.int := by rw [List.map_set]
theorem eqv_ints {as bs : List Int} : PyData.eqv (.list (as.map PyData.int)) (.list (bs.map PyData.int)) = decide (as = bs) := by
  rw [PyData.eqv]
  induction as generalizing bs with
  | nil => cases bs <;> simp [PyData.eqvAll]
  | cons a as ih =>
    cases bs with
    | nil => simp [PyData.eqvAll]
    | cons b bs =>
      rw [List.map_cons, List.map_cons, PyData.eqvAll, ih, PyData.eqv]
      by_cases e : a = b
      · subst e; simp
      · simp [e]
theorem Dp.ints {K : PySem.W.Frag} {H : Hp} {a : Addr} {ns : List Int} (h : SqL K H a (ns.map V.int)) : Dp K H (.ref a) (.list (ns.map PyData.int)) := .lst h (DpAll.ints ns)
theorem Fl.intlS (ns : List Int) : SeqAt.shaped (.list (ns.map PyData.int)) = true := (Fl.intl ns).shaped
/-! a comprehension over a list, its items anything -/
/-- the heap without the list that grows -/
def hid (D : Addr) (H : Hp) : Hp := fun b => if b = D then none else H b
theorem hid_ne {D b : Addr} {H : Hp} (h : b ≠ D) : hid D H b = H b := by unfold hid; rw [if_neg h]
theorem hid_at {D : Addr} {H : Hp} : hid D H D = none := by unfold hid; rw [if_pos rfl]
theorem hid_same {D : Addr} {H : Hp} : L2.Same (hid D H) H := fun b o e => by
  by_cases hb : b = D
  · rw [hb, hid_at] at e; cases e
  · rw [hid_ne hb] at e; exact e
theorem of_hid {D b : Addr} {H : Hp} {o : HO} (e : hid D H b = some o) : b ≠ D ∧ H b = some o := by
  by_cases hb : b = D
  · rw [hb, hid_at] at e; cases e
  · rw [hid_ne hb] at e; exact ⟨hb, e⟩
theorem same_hid {D : Addr} {H H' : Hp} (s : L2.Same H H') (n : H D = none) : L2.Same H (hid D H') := fun b o e => by
  rw [hid_ne (ne_of_none e n)]; exact s _ _ e
theorem hid_upd {D : Addr} {H : Hp} {o : HO} : hid D (upd H D o) = hid D H := by
  funext b
  by_cases hb : b = D
  · rw [hb, hid_at, hid_at]
  · rw [hid_ne hb, hid_ne hb, upd_ne hb]
theorem hid_none {D : Addr} {H : Hp} (n : H D = none) : hid D H = H := by
  funext b
  by_cases hb : b = D
  · rw [hb, hid_at, n]
  · rw [hid_ne hb]
theorem r_lcL {K : PySem.W.Frag} {a : Addr} {xs : List V} {slot : Nat} {vs : List Nat} {te : TE} {σ : L2.St} {H : Hp} {Q : V → Hp → Prop} (P : Nat → List V → Hp → Prop) (hx : SqL K H a xs) (hn : xs.length ≤ 100000) (hv : vs = [slot])
    (h0 : P 0 [] H)
    (hs : ∀ (i : Nat) (x : V) (acc : List V) (H0 H' : Hp), xs[i]? = some x → L2.Same H H0 → P i acc H0 → L2.Same H0 H' → ∀ R : V → Hp → Prop,
      (∀ (v : V) (H'' : Hp), L2.Same H' H'' → (∀ D, H0 D = none → H' D ≠ none → P (i + 1) (acc ++ [v]) (hid D H'')) → R v H'') → te ((wipe σ vs).set slot (some x)) H' R)
    (q : ∀ (H' : Hp) (l : Addr) (acc : List V), L2.Same H H' → H l = none → H' l = some (.lst acc) → acc.length = xs.length → P xs.length acc (hid l H') → Q (.ref l) H') :
    kLc (gName slot) tYes te vs σ Q (Itl K a) H := by
  intro L hL
  have hw : ∀ (τ : L2.St) (x : V), wipe (τ.set slot (some x)) [slot] = wipe τ [slot] := fun τ x => by simp [wipe, List.set_set]
  have hw2 : wipe (wipe σ vs) vs = wipe σ vs := by subst hv; simp [wipe, List.set_set]
  refine lc_list (xs := xs) (fun i H' => ∃ acc : List V, acc.length = i ∧ H' L = some (.lst acc) ∧ L2.Same H H' ∧ P i acc (hid L H')) ⟨[], rfl, upd_same, fun b o e => by rw [upd_ne (ne_of_none e hL)]; exact e, by rw [hid_upd, hid_none hL]; exact h0⟩ ?_ ?_ ?_
  · rintro i H' hi ⟨acc, _, _, s, _⟩
    exact s.seq hx
  · rintro i x H' hi ⟨acc, el, eL, s, hp⟩
    refine ⟨?_, ?_⟩
    · subst hv
      rw [hw]
      exact hw2
    · show te ((wipe σ vs).set slot (some x)) H' _
      refine hs i x acc (hid L H') H' hi (same_hid s hL) hp hid_same _ fun v H'' s2 hP => ⟨acc, s2 _ _ eL, ?_, acc ++ [v], ?_, upd_same, ?_, ?_⟩
      · have := (List.getElem?_eq_some_iff.mp hi).1
        rw [el, sz]
        omega
      · rw [List.length_append, el]; rfl
      · intro b o e
        rw [upd_ne (ne_of_none e hL)]
        exact s2 _ _ (s _ _ e)
      · rw [hid_upd]
        exact hP L hid_at (by rw [eL]; intro z; cases z)
  · rintro H' ⟨acc, el, eL, s, hp⟩
    exact q H' L acc s hL eL el hp
end Sg
namespace Sg
open PySem L2
def top (i : Nat) : Stmt := PySem.Challenge.pw_segmentfs_k54_read_paths.main.body.getD i (.Pass ⟨0, 0, 0, 0⟩)
abbrev s_is_text : Stmt := top 8
abbrev s_is_code : Stmt := top 9
abbrev s_Path___init : Stmt := inClass (top 16) 0
abbrev s_read_path : Stmt := top 17
abbrev s_read_target : Stmt := top 18
abbrev s_names_in : Stmt := top 19
abbrev s_law_row : Stmt := top 21
abbrev s_law_char : Stmt := top 22
abbrev s_law_text : Stmt := top 23
abbrev s_law_parts : Stmt := top 24
abbrev s_law_bad : Stmt := top 25
abbrev s_law_due : Stmt := top 26
abbrev s_law_told : Stmt := top 27
abbrev s_law_agrees : Stmt := top 28
abbrev s_law_string : Stmt := top 29
abbrev s_law : Stmt := top 30
abbrev n_is_text : List Str := ["text", "sign"]
theorem sc_is_text : FnScope n_is_text ["text"] (defScope s_is_text) := ⟨rfl, rfl, rfl, by decide +kernel, rfl, by decide +kernel, by decide +kernel⟩
abbrev n_is_code : List Str := ["number"]
theorem sc_is_code : FnScope n_is_code ["number"] (defScope s_is_code) := ⟨rfl, rfl, rfl, by decide +kernel, rfl, by decide +kernel, by decide +kernel⟩
abbrev n_Path___init : List Str := ["self", "parts", "closed"]
theorem sc_Path___init : FnScope n_Path___init ["self", "parts", "closed"] (defScope s_Path___init) := ⟨rfl, rfl, rfl, by decide +kernel, rfl, by decide +kernel, by decide +kernel⟩
abbrev n_read_path : List Str := ["text", "parts", "part"]
theorem sc_read_path : FnScope n_read_path ["text"] (defScope s_read_path) := ⟨rfl, rfl, rfl, by decide +kernel, rfl, by decide +kernel, by decide +kernel⟩
abbrev n_read_target : List Str := ["text"]
theorem sc_read_target : FnScope n_read_target ["text"] (defScope s_read_target) := ⟨rfl, rfl, rfl, by decide +kernel, rfl, by decide +kernel, by decide +kernel⟩
abbrev n_names_in : List Str := ["text", "part"]
theorem sc_names_in : FnScope n_names_in ["text"] (defScope s_names_in) := ⟨rfl, rfl, rfl, by decide +kernel, rfl, by decide +kernel, by decide +kernel⟩
abbrev n_law_row : List Str := ["script", "k", "cell", "low", "high"]
theorem sc_law_row : FnScope n_law_row ["script", "k"] (defScope s_law_row) := ⟨rfl, rfl, rfl, by decide +kernel, rfl, by decide +kernel, by decide +kernel⟩
abbrev n_law_char : List Str := ["number", "chars"]
theorem sc_law_char : FnScope n_law_char ["number"] (defScope s_law_char) := ⟨rfl, rfl, rfl, by decide +kernel, rfl, by decide +kernel, by decide +kernel⟩
abbrev n_law_text : List Str := ["number", "count", "text", "k"]
theorem sc_law_text : FnScope n_law_text ["number", "count"] (defScope s_law_text) := ⟨rfl, rfl, rfl, by decide +kernel, rfl, by decide +kernel, by decide +kernel⟩
abbrev n_law_parts : List Str := ["text", "parts", "part", "char"]
theorem sc_law_parts : FnScope n_law_parts ["text"] (defScope s_law_parts) := ⟨rfl, rfl, rfl, by decide +kernel, rfl, by decide +kernel, by decide +kernel⟩
abbrev n_law_bad : List Str := ["text", "char"]
theorem sc_law_bad : FnScope n_law_bad ["text"] (defScope s_law_bad) := ⟨rfl, rfl, rfl, by decide +kernel, rfl, by decide +kernel, by decide +kernel⟩
abbrev n_law_due : List Str := ["text", "target", "parts", "part"]
theorem sc_law_due : FnScope n_law_due ["text", "target"] (defScope s_law_due) := ⟨rfl, rfl, rfl, by decide +kernel, rfl, by decide +kernel, by decide +kernel⟩
abbrev n_law_told : List Str := ["text", "target", "path", "e", "long"]
theorem sc_law_told : FnScope n_law_told ["text", "target"] (defScope s_law_told) := ⟨rfl, rfl, rfl, by decide +kernel, rfl, by decide +kernel, by decide +kernel⟩
abbrev n_law_agrees : List Str := ["text", "target", "due", "told", "parts", "closed"]
theorem sc_law_agrees : FnScope n_law_agrees ["text", "target"] (defScope s_law_agrees) := ⟨rfl, rfl, rfl, by decide +kernel, rfl, by decide +kernel, by decide +kernel⟩
abbrev n_law_string : List Str := ["script", "k", "number", "rest", "text", "j", "word", "at"]
theorem sc_law_string : FnScope n_law_string ["script", "k"] (defScope s_law_string) := ⟨rfl, rfl, rfl, by decide +kernel, rfl, by decide +kernel, by decide +kernel⟩
abbrev n_law : List Str := ["script", "text", "k", "path", "given", "again"]
theorem sc_law : FnScope n_law ["script"] (defScope s_law) := ⟨rfl, rfl, rfl, by decide +kernel, rfl, by decide +kernel, by decide +kernel⟩
structure Txt (K : PySem.W.Frag) (mg : Str → Option Value) where
  a_is_text : Addr
  fd_is_text : FuncData
  a_is_code : Addr
  fd_is_code : FuncData
  a_Path___init : Addr
  fd_Path___init : FuncData
  a_read_path : Addr
  fd_read_path : FuncData
  a_read_target : Addr
  fd_read_target : FuncData
  a_names_in : Addr
  fd_names_in : FuncData
  a_law_row : Addr
  fd_law_row : FuncData
  a_law_char : Addr
  fd_law_char : FuncData
  a_law_text : Addr
  fd_law_text : FuncData
  a_law_parts : Addr
  fd_law_parts : FuncData
  a_law_bad : Addr
  fd_law_bad : FuncData
  a_law_due : Addr
  fd_law_due : FuncData
  a_law_told : Addr
  fd_law_told : FuncData
  a_law_agrees : Addr
  fd_law_agrees : FuncData
  a_law_string : Addr
  fd_law_string : FuncData
  a_law : Addr
  fd_law : FuncData
  A_Path : Addr
  t_FIRST_CODE : Tok
  t_LAST_CODE : Tok
  t_MOST_FOLLOWED : Tok
  t_MOST_LINKS : Tok
  t_MOST_NAME : Tok
  t_MOST_NAMES : Tok
  t_MOST_PATH : Tok
  t_PERCENT : Tok
  F_is_text : Fun K "is_text" "is_text" s_is_text a_is_text fd_is_text
  b_is_text : Binds K fd_is_text ["text"] []
  m_is_text : mg "is_text" = some (.ref a_is_text)
  F_is_code : Fun K "_is_code" "_is_code" s_is_code a_is_code fd_is_code
  b_is_code : Binds K fd_is_code ["number"] []
  m_is_code : mg "_is_code" = some (.ref a_is_code)
  F_Path___init : Fun K "__init__" "Path.__init__" s_Path___init a_Path___init fd_Path___init
  b_Path___init : Binds K fd_Path___init ["self", "parts", "closed"] []
  F_read_path : Fun K "read_path" "read_path" s_read_path a_read_path fd_read_path
  b_read_path : Binds K fd_read_path ["text"] []
  m_read_path : mg "read_path" = some (.ref a_read_path)
  F_read_target : Fun K "read_target" "read_target" s_read_target a_read_target fd_read_target
  b_read_target : Binds K fd_read_target ["text"] []
  m_read_target : mg "read_target" = some (.ref a_read_target)
  F_names_in : Fun K "names_in" "names_in" s_names_in a_names_in fd_names_in
  b_names_in : Binds K fd_names_in ["text"] []
  m_names_in : mg "names_in" = some (.ref a_names_in)
  F_law_row : Fun K "_law_row" "_law_row" s_law_row a_law_row fd_law_row
  b_law_row : Binds K fd_law_row ["script", "k"] []
  m_law_row : mg "_law_row" = some (.ref a_law_row)
  F_law_char : Fun K "_law_char" "_law_char" s_law_char a_law_char fd_law_char
  b_law_char : Binds K fd_law_char ["number"] []
  m_law_char : mg "_law_char" = some (.ref a_law_char)
  F_law_text : Fun K "_law_text" "_law_text" s_law_text a_law_text fd_law_text
  b_law_text : Binds K fd_law_text ["number", "count"] []
  m_law_text : mg "_law_text" = some (.ref a_law_text)
  F_law_parts : Fun K "_law_parts" "_law_parts" s_law_parts a_law_parts fd_law_parts
  b_law_parts : Binds K fd_law_parts ["text"] []
  m_law_parts : mg "_law_parts" = some (.ref a_law_parts)
  F_law_bad : Fun K "_law_bad" "_law_bad" s_law_bad a_law_bad fd_law_bad
  b_law_bad : Binds K fd_law_bad ["text"] []
  m_law_bad : mg "_law_bad" = some (.ref a_law_bad)
  F_law_due : Fun K "_law_due" "_law_due" s_law_due a_law_due fd_law_due
  b_law_due : Binds K fd_law_due ["text", "target"] []
  m_law_due : mg "_law_due" = some (.ref a_law_due)
  F_law_told : Fun K "_law_told" "_law_told" s_law_told a_law_told fd_law_told
  b_law_told : Binds K fd_law_told ["text", "target"] []
  m_law_told : mg "_law_told" = some (.ref a_law_told)
  F_law_agrees : Fun K "_law_agrees" "_law_agrees" s_law_agrees a_law_agrees fd_law_agrees
  b_law_agrees : Binds K fd_law_agrees ["text", "target"] []
  m_law_agrees : mg "_law_agrees" = some (.ref a_law_agrees)
  F_law_string : Fun K "_law_string" "_law_string" s_law_string a_law_string fd_law_string
  b_law_string : Binds K fd_law_string ["script", "k"] []
  m_law_string : mg "_law_string" = some (.ref a_law_string)
  F_law : Fun K "law" "law" s_law a_law fd_law
  b_law : Binds K fd_law ["script"] []
  m_law : mg "law" = some (.ref a_law)
  m_Path : mg "Path" = some (.ref A_Path)
  cl_Path : Cls K A_Path
  M_Path : Mk K A_Path a_Path___init
  na_Path_parts : NoAttr K A_Path "parts"
  na_Path_closed : NoAttr K A_Path "closed"
  A_InvalidPath : Addr
  m_InvalidPath : mg "InvalidPath" = some (.ref A_InvalidPath)
  A_NameTooLong : Addr
  m_NameTooLong : mg "NameTooLong" = some (.ref A_NameTooLong)
  A_SegmentError : Addr
  m_SegmentError : mg "SegmentError" = some (.ref A_SegmentError)
  x_InvalidPath : PySem.W.excIn K A_InvalidPath [.type "ValueError", .type "Exception", .type "BaseException", .type "object"] "ValueError.__new__" = true
  k_InvalidPath : PySem.W.keepIn K (.ref A_InvalidPath) = true
  b_InvalidPath : PySem.W.subIn K (.ref A_InvalidPath) (.type "BaseException") = some true
  t_InvalidPath : PySem.W.typeIn K (.ref A_InvalidPath) = some (.type "type")
  e_InvalidPath : ExcC K A_InvalidPath
  x_NameTooLong : PySem.W.excIn K A_NameTooLong [.type "ValueError", .type "Exception", .type "BaseException", .type "object"] "ValueError.__new__" = true
  k_NameTooLong : PySem.W.keepIn K (.ref A_NameTooLong) = true
  b_NameTooLong : PySem.W.subIn K (.ref A_NameTooLong) (.type "BaseException") = some true
  t_NameTooLong : PySem.W.typeIn K (.ref A_NameTooLong) = some (.type "type")
  e_NameTooLong : ExcC K A_NameTooLong
  ex_InvalidPath_SegmentError : PySem.W.exmOne K (.ref A_InvalidPath) (.ref A_SegmentError) = some true
  ex_NameTooLong_SegmentError : PySem.W.exmOne K (.ref A_NameTooLong) (.ref A_SegmentError) = some true
  kit_InvalidPath_NameTooLong : PySem.W.kitOne K (.ref A_InvalidPath) (.ref A_NameTooLong) = some false
  kit_NameTooLong_NameTooLong : PySem.W.kitOne K (.ref A_NameTooLong) (.ref A_NameTooLong) = some true
  kit_InvalidPath_InvalidPath : PySem.W.kitOne K (.ref A_InvalidPath) (.ref A_InvalidPath) = some true
  kit_NameTooLong_InvalidPath : PySem.W.kitOne K (.ref A_NameTooLong) (.ref A_InvalidPath) = some false
  kit_InvalidPath_ValueError : PySem.W.kitOne K (.ref A_InvalidPath) (.type "ValueError") = some true
  kit_NameTooLong_ValueError : PySem.W.kitOne K (.ref A_NameTooLong) (.type "ValueError") = some true
  c_FIRST_CODE : mg "FIRST_CODE" = some (.int 32 t_FIRST_CODE)
  r_FIRST_CODE : RelV (.int 32) (.int 32 t_FIRST_CODE)
  c_LAST_CODE : mg "LAST_CODE" = some (.int 126 t_LAST_CODE)
  r_LAST_CODE : RelV (.int 126) (.int 126 t_LAST_CODE)
  c_MOST_FOLLOWED : mg "MOST_FOLLOWED" = some (.int 8 t_MOST_FOLLOWED)
  r_MOST_FOLLOWED : RelV (.int 8) (.int 8 t_MOST_FOLLOWED)
  c_MOST_LINKS : mg "MOST_LINKS" = some (.int 40 t_MOST_LINKS)
  r_MOST_LINKS : RelV (.int 40) (.int 40 t_MOST_LINKS)
  c_MOST_NAME : mg "MOST_NAME" = some (.int 28 t_MOST_NAME)
  r_MOST_NAME : RelV (.int 28) (.int 28 t_MOST_NAME)
  c_MOST_NAMES : mg "MOST_NAMES" = some (.int 16 t_MOST_NAMES)
  r_MOST_NAMES : RelV (.int 16) (.int 16 t_MOST_NAMES)
  c_MOST_PATH : mg "MOST_PATH" = some (.int 200 t_MOST_PATH)
  r_MOST_PATH : RelV (.int 200) (.int 200 t_MOST_PATH)
  c_PERCENT : mg "PERCENT" = some (.int 37 t_PERCENT)
  r_PERCENT : RelV (.int 37) (.int 37 t_PERCENT)
  n_ValueError : mg "ValueError" = none
  n_all : mg "all" = none
  n_any : mg "any" = none
  n_bool : mg "bool" = none
  n_int : mg "int" = none
  n_isinstance : mg "isinstance" = none
  n_len : mg "len" = none
  n_list : mg "list" = none
  n_ord : mg "ord" = none
  n_range : mg "range" = none
end Sg
namespace Sg
open PySem L2
local macro_rules | `(tactic| walk_at "size") => `(tactic| first | ((simp only [List.length_append, List.length_cons, List.length_nil, List.length_map, Sg.sz]) <;> omega) | (rw [Sg.sz]; simp <;> omega))
local macro_rules | `(tactic| walk_at "side") => `(tactic| first | with_reducible rfl | with_reducible assumption | (show (_ : Int) < _; omega) | omega | (simp only [List.length_map]; omega) | assumption | rfl | decide | exact Or.inr ⟨by decide, by decide⟩ | exact Or.inl ⟨by decide, by decide⟩ | exact Or.inr ⟨by omega, by omega⟩ | exact Or.inl ⟨by omega, by omega⟩ | exact ⟨by omega, by omega⟩ | exact ⟨by decide, by decide, by decide⟩ | (simp; done))
local macro_rules | `(tactic| walk_at "hp") => `(tactic| first | assumption | (refine' L2.SqT.of ?h1; (case h1 => walk_at "hp")) | (refine' L2.SqL.of ?h1; (case h1 => walk_at "hp")) | (refine' Sg.Same.tup ?h1 ?h2; (case h1 => assumption); (case h2 => walk_at "hp")) | (refine' L2.Same.seq ?h1 ?h2; (case h1 => assumption); (case h2 => walk_at "hp")) | (refine' (show L2.Same _ _ from ?h1) _ _ ?h2; (case h1 => assumption); (case h2 => walk_at "hp")) | (refine' Sg.at_keep ?he ?h1 ?h2 ?h3; (case he => assumption); (case h1 => walk_at "hp"); (case h2 => walk_at "hp"); (case h3 => (intro z; cases z))))
local macro_rules | `(tactic| walk_at "al") => `(tactic| (intro p hn; generalize hH : upd _ _ _ = H'; have hs := Sg.Same.of_new hH hn; have ho := Sg.at_new hH; clear hH))
local macro_rules | `(tactic| walk_at "sm1") => `(tactic| first | (refine' L2.Same.trans ?ha ?hb; (case hb => assumption)) | (refine' Sg.Same.old ?ha ?hb ?hc; (case hc => assumption); (case hb => walk_at "nn")))
local macro_rules | `(tactic| walk_at "sm") => `(tactic| first | exact L2.Same.refl _ | assumption | (walk_at "sm1"; walk_at "sm"))
local macro_rules | `(tactic| walk_at "nn") => `(tactic| first | assumption | ((refine' L2.Same.free ?ha ?hb; (case hb => assumption)); walk_at "sm"))
local macro_rules | `(tactic| walk_at "dp") => `(tactic| first | assumption | exact L2.Dp.int _ | exact L2.Dp.non | exact L2.Dp.bl _ | exact L2.Dp.str _ | (refine' L2.Dp.tup ?ha ?hb; (case ha => walk_at "hp"); (case hb => walk_at "dpa")) | (refine' L2.Dp.lst ?ha ?hb; (case ha => walk_at "hp"); (case hb => walk_at "dpa")))
local macro_rules | `(tactic| walk_at "dpa") => `(tactic| first | assumption | exact L2.DpAll.nil | exact Sg.DpAll.ints _ | (refine' L2.DpAll.cons ?ha ?hb; (case ha => walk_at "dp"); (case hb => walk_at "dpa")))
local macro_rules | `(tactic| walk_at "fl") => `(tactic| first | assumption | exact Sg.Fl.int _ _ | exact Sg.Fl.non _ | exact Sg.Fl.bool _ _ | (refine' Sg.Fl.tup ?ha; (case ha => walk_at "fla")) | (refine' Sg.Fl.lst ?ha; (case ha => walk_at "fla")))
local macro_rules | `(tactic| walk_at "fla") => `(tactic| first | assumption | exact Sg.Fl.nil | exact Sg.Fl.mapi | (refine' Sg.Fl.cons ?ha ?hb; (case ha => walk_at "fl"); (case hb => walk_at "fla")))
local macro_rules | `(tactic| walk_at "tyx") => `(tactic| first | exact L2.TyX.base (L2.TyOf.int _) | exact L2.TyX.base (L2.TyOf.bl _) | exact L2.TyX.base L2.TyOf.non | exact L2.TyX.base (L2.TyOf.str _) | (refine' L2.TyX.base (L2.TyOf.tup ?ha); (case ha => walk_at "hp")) | (refine' L2.TyX.base (L2.TyOf.lst ?ha); (case ha => walk_at "hp")) | (refine' L2.TyX.base (L2.TyOf.frz ?ha); (case ha => walk_at "hp")))
local macro_rules | `(tactic| walk_at "up") => `(tactic| (generalize hH : upd _ _ _ = H'; have ho := Sg.at_new hH))
local macro_rules | `(tactic| walk_at "lk") => `(tactic| first | with_reducible assumption | with_reducible exact Sg.lk_eq | (refine' Sg.lk_ne ?ha ?hb; (case ha => decide +kernel); (case hb => walk_at "lk")) | (refine' Sg.lk_no ?ha ?hb; (case ha => decide +kernel); (case hb => walk_at "lk")) | rfl)
local macro_rules | `(tactic| walk_at "few") => `(tactic| first | assumption | omega | decide | (refine' Nat.lt_of_le_of_lt (Sg.putF_len ?ha) ?hb; (case ha => walk_at "fewi"); (case hb => decide)))
local macro_rules | `(tactic| walk_at "fewi") => `(tactic| first | assumption | (refine' Sg.putF_len ?ha; (case ha => walk_at "fewi")) | exact Nat.le_refl _)
local macro_rules | `(tactic| walk_at "rd1") => `(tactic| with_reducible (first | refine' Sg.r_seq ?_ | refine' Sg.r_asg ?_ | refine' Sg.r_gname ?_ | (refine' Sg.r_var (by with_unfolding_all rfl) ?_) | refine' Sg.r_c ?_ | refine' Sg.r_op ?_ | refine' Sg.r_un ?_ | refine' Sg.r_cb ?_ | refine' Sg.r_cons ?_ | refine' Sg.r_nil ?_ | (refine' Sg.r_mod ?hc ?_; (case hc => (with_unfolding_all walk_at "side")); (intro z hz z0 z1)) | (refine' Sg.r_rI ?hc ?_; (case hc => (with_unfolding_all walk_at "side"))) | refine' Sg.r_rI0 ?_ | refine' Sg.r_rU ?_ | refine' Sg.r_int ?_ | refine' Sg.r_eqi ?_ | refine' Sg.r_nei ?_ | (refine' Sg.r_ixl ?h ?e ?_; (case h => (with_unfolding_all walk_at "hp")); (case e => (with_unfolding_all rfl))) | (refine' Sg.r_ixt ?h ?e ?_; (case h => (with_unfolding_all walk_at "hp")); (case e => (with_unfolding_all rfl))) | (refine' Sg.r_lenl ?h ?_; (case h => (with_unfolding_all walk_at "hp"))) | (refine' Sg.r_lent ?h ?_; (case h => (with_unfolding_all walk_at "hp"))) | refine' Sg.r_test ?_ | refine' Sg.r_exb ?_ | refine' Sg.r_tB ?_ | refine' Sg.r_exbP ?_ | refine' Sg.r_ifs ?_ | refine' Sg.r_and ?_ | refine' Sg.r_or ?_ | refine' Sg.r_not ?_ | refine' Sg.r_andV ?_ | refine' Sg.r_orV ?_ | refine' Sg.r_notV ?_ | refine' Sg.r_tif ?_ | refine' Sg.r_isN ?_ | refine' Sg.r_notN ?_ | refine' Sg.r_ret ?_ | refine' Sg.r_drop ?_ | refine' Sg.r_next ?_ | refine' Sg.r_call ?_ | refine' Sg.r_make ?_ | refine' Sg.r_meth ?_ | refine' Sg.r_fld ?_ | refine' Sg.r_sfld ?_ | refine' Sg.r_chain ?_ | (refine' Sg.r_fldL ?h ?hc ?hn ?hl ?_; (case h => (with_unfolding_all walk_at "hp")); (case hc => assumption); (case hn => assumption); (case hl => (with_unfolding_all walk_at "lk"))) | (refine' Sg.r_sfldL ?h ?hc ?hn ?hl ?_; (case h => (with_unfolding_all walk_at "hp")); (case hc => assumption); (case hn => assumption); (case hl => (with_unfolding_all walk_at "few")); (with_unfolding_all walk_at "up")) | (refine' Sg.r_gunl ?h ?hl ?_; (case h => (with_unfolding_all walk_at "hp")); (case hl => (with_unfolding_all walk_at "side"))) | (refine' Sg.r_gtup ?h ?hl ?_; (case h => (with_unfolding_all walk_at "hp")); (case hl => (with_unfolding_all walk_at "side"))) | (refine' Sg.r_methL ?h ?hl ?_; (case h => (with_unfolding_all walk_at "hp")); (case hl => (with_unfolding_all walk_at "lk"))) | refine' Sg.r_tup ?_ | refine' Sg.r_lst ?_ | (refine' Sg.r_ktup ?hl ?_; (case hl => (with_unfolding_all first | exact Nat.le_of_ble_eq_true rfl | decide)); (with_unfolding_all walk_at "al")) | (refine' Sg.r_klst ?hl ?_; (case hl => (with_unfolding_all first | exact Nat.le_of_ble_eq_true rfl | decide)); (with_unfolding_all walk_at "al")) | (refine' Sg.r_listl ?h ?_; (case h => (with_unfolding_all walk_at "hp")); (with_unfolding_all walk_at "al")) | (refine' Sg.r_listt ?h ?_; (case h => (with_unfolding_all walk_at "hp")); (with_unfolding_all walk_at "al")) | (refine' Sg.r_tupl ?h ?_; (case h => (with_unfolding_all walk_at "hp")); (with_unfolding_all walk_at "al")) | (refine' Sg.r_tupt ?h ?_; (case h => (with_unfolding_all walk_at "hp"))) | (refine' Sg.r_in (.inr ?h) ?fx ?fs ?_; (case h => (with_unfolding_all walk_at "hp")); (case fx => (with_unfolding_all rfl)); (case fs => (with_unfolding_all rfl))) | (refine' Sg.r_in (.inl ?h) ?fx ?fs ?_; (case h => (with_unfolding_all walk_at "hp")); (case fx => (with_unfolding_all rfl)); (case fs => (with_unfolding_all rfl))) | (refine' Sg.r_sorted ?h ?h64 ?_; (case h => (with_unfolding_all walk_at "hp")); (case h64 => (with_unfolding_all walk_at "side")); (intro ns' p perm rising; revert p; (with_unfolding_all walk_at "al"))) | (refine' Sg.r_app ?h ?hl ?_; (case h => (with_unfolding_all walk_at "hp")); (case hl => (with_unfolding_all walk_at "size")); (with_unfolding_all walk_at "up")) | refine' Sg.r_lc ?_ | refine' Sg.r_for ?_ | refine' Sg.r_irng1 ?_ | refine' Sg.r_irng2 ?_ | refine' Sg.r_ilist ?_ | refine' Sg.r_itup ?_ | (refine' Sg.r_kR1 ?h1 ?h2 ?_; (case h1 => (with_unfolding_all walk_at "side")); (case h2 => (with_unfolding_all walk_at "side"))) | (refine' Sg.r_kR2 ?h1 ?_; (case h1 => (with_unfolding_all refine ⟨?_, ?_, ?_, ?_⟩ <;> walk_at "side"))) | (refine' Sg.r_kIl ?h ?_; (case h => (with_unfolding_all walk_at "hp"))) | (refine' Sg.r_kIt ?h ?_; (case h => (with_unfolding_all walk_at "hp"))) | refine' Sg.r_bm ?_ | refine' Sg.r_bm0 ?_ | (refine' Sg.r_tyl ?h ?_; (case h => (with_unfolding_all walk_at "hp"))) | refine' Sg.r_nonR ?_ | refine' Sg.r_nonN ?_ | refine' Sg.r_isR ?_ | refine' Sg.r_isNN ?_ | refine' Sg.r_nonI ?_ | refine' Sg.r_isI ?_ | refine' L2.iteT ?_ | refine' L2.iteF ?_ | refine' Sg.r_gcons ?_ | refine' Sg.r_gnil ?_ | refine' Sg.r_gsub ?_ | refine' Sg.r_isb ?_ | refine' Sg.r_notb ?_ | (refine' Sg.r_aug (by with_unfolding_all rfl) ?_) | refine' Sg.r_ipI ?_ | (refine' Sg.r_isi (b := true) (L2.ClsV.ty _) ?ht ?hk ?_; (case ht => (with_unfolding_all walk_at "tyx")); (case hk => (with_unfolding_all exact L2.kit_ty (by decide +kernel)))) | (refine' Sg.r_isi (b := false) (L2.ClsV.ty _) ?ht ?hk ?_; (case ht => (with_unfolding_all walk_at "tyx")); (case hk => (with_unfolding_all exact L2.kit_ty (by decide +kernel)))) | refine' Sg.r_gmap ?_ | refine' Sg.r_gmapn ?_ | (refine' Sg.r_iteb ?hb ?_; (case hb => (with_unfolding_all rfl))) | (refine' Sg.r_iteB ?hb ?_; (case hb => (with_unfolding_all rfl)))))
local macro_rules | `(tactic| walk_at "rd") => `(tactic| repeat walk_at "rd1")
local macro_rules | `(tactic| walk_at "rdo") => `(tactic| repeat (first | walk_at "rd1" | (with_reducible refine' Sg.r_iteD ?hc ?_; (case hc => first | assumption | omega)) | (with_reducible refine' Sg.r_iteDn ?hc ?_; (case hc => first | assumption | omega)) | (with_reducible refine' Sg.r_iteND ?hc ?_; (case hc => first | assumption | omega)) | (with_reducible refine' Sg.r_iteNDn ?hc ?_; (case hc => first | assumption | omega))))
local macro_rules | `(tactic| walk_at "rd1") => `(tactic| with_reducible (first | refine' Sg.r_istr ?_ | refine' Sg.r_kIs ?_ | refine' Sg.r_eqb ?_ | refine' Sg.r_isS ?_ | refine' Sg.r_nonS ?_ | refine' Sg.r_eqs ?_ | refine' Sg.r_nes ?_ | refine' Sg.r_sl ?_ | refine' Sg.r_noP ?_ | refine' Sg.r_part ?_ | refine' Sg.r_kPart ?_ | (refine' Sg.r_slL ?h ?_; (case h => (with_unfolding_all walk_at "hp")); (with_unfolding_all walk_at "al"))))
local macro_rules | `(tactic| walk_at "szle") => `(tactic| (rw [Sg.sz]; (try simp only [List.length_map, List.length_append, List.length_cons, List.length_nil, List.length_replicate]); omega))
local macro_rules | `(tactic| walk_at "rd1") => `(tactic| with_reducible (first | (refine' Sg.r_cat ?h ?h' ?hz ?_; (case h => (with_unfolding_all walk_at "hp")); (case h' => (with_unfolding_all walk_at "hp")); (case hz => (with_unfolding_all walk_at "szle")); (with_unfolding_all walk_at "al")) | (refine' Sg.r_rep1 ?h ?h1 ?h2 ?_; (case h => (with_unfolding_all walk_at "hp")); (case h1 => omega); (case h2 => omega); (with_unfolding_all walk_at "al"))))
local macro_rules | `(tactic| walk_at "rd1") => `(tactic| with_reducible (first | (refine' Sg.r_lenS ?hl ?_; (case hl => omega)) | (refine' Sg.r_min2 ?_; (intro m hm1 hm2 hm3)) | (refine' Sg.r_max2 ?_; (intro m hm1 hm2 hm3)) | (refine' Sg.r_addT ?hl ?_; (case hl => omega))))
local macro_rules | `(tactic| walk_at "ca1") => `(tactic| fail)
local macro_rules | `(tactic| walk_at "pr") => `(tactic| first | assumption | omega | walk_at "hp" | exact L2.upd_same | rfl | trivial | decide)
local macro_rules | `(tactic| walk_at "it1") => `(tactic| with_reducible (first | (refine' Sg.r_iteD ?hc ?_; (case hc => first | assumption | omega)) | (refine' Sg.r_iteDn ?hc ?_; (case hc => first | assumption | omega)) | (refine' Sg.r_iteND ?hc ?_; (case hc => first | assumption | omega)) | (refine' Sg.r_iteNDn ?hc ?_; (case hc => first | assumption | omega))))
local macro_rules | `(tactic| walk_at "go1") => `(tactic| first | walk_at "rd1" | walk_at "rx1" | walk_at "ca1" | walk_at "it1")
local macro_rules | `(tactic| walk_at "go") => `(tactic| repeat walk_at "go1")
local macro_rules | `(tactic| walk_at "gs") => `(tactic| repeat' (first | walk_at "go1" | with_reducible refine' Sg.r_ite (fun _ => ?_) (fun _ => ?_) | with_reducible refine' Sg.r_iteN (fun _ => ?_) (fun _ => ?_)))
-- imports: HandS.NoneIn HandS.Defaults HandS.TupMul HandS.Zip HandS.SetFor HandS.SetKeys HandS.Walk HandS.Codes HandS.Text HandS.AnyAll HandS.WideBits HandS.Iter HandS.FStr HandS.RaiseMore HandS.Rev HandS.ForExc HandS.CallSlots HandS.ExcIs HandS.SetBool HandS.Strs HandS.More HandS.Deep HandS.Replace HandS.ReplaceLit HandS.ReplaceList PyProof.ToksMono KE.GoesEnum
-- auto
section
variable {P : Program} {w : World} {K : PySem.W.Frag} {mg : Str → Option Value} {base : Heap}
theorem made_same {H H1 : Hp} {x dx : Addr} {o : HO} (nx : H x = none) (nd : H dx = none) (k : ∀ q, q ≠ x → H1 q = upd (upd H dx (.own x)) x o q) : Same H H1 := fun b u e => by
  rw [k b (ne_of_none e nx), upd_ne (ne_of_none e nx), upd_ne (ne_of_none e nd)]
  exact e

/-! ### exceptions: calls of classes and methods within a try, by the caller's slots; named readings -/
def tMakeSD (C : Addr) (sp : Sp) (dvs : List V) (E : L2.St → XK) (t : TA) : TE := fun σ H Q => t σ H fun vs H1 => ∀ x dx, H1 x = none → H1 dx = none → dx ≠ x → sp (.ref x :: (vs ++ dvs)) (upd (upd H1 dx (.own x)) x (.ins C dx [])) (fun v H2 => v = .non ∧ Q (.ref x) H2) (E σ)
theorem pe_makeSD {X : Cx} {CX : CXT} {k : Nat} {f C : Addr} {fd : FuncData} {ps : List Str} {sp : Sp} {dvs : List V} {ds : List Value} {E : L2.St → XK} {x : Str} {p pos : Pos} {e : Expr} {es : List Expr} {t : TA}
    (M : Mk X.K C f) (F : FnOk X.prog X.w X.K X.mg X.base CX k f fd ps sp) (hr : Room (k + 1) X.A) (hg : Gl X x) (hm : X.mg x = some (.ref C)) (hb : Binds X.K fd ps ds) (hd : Vals dvs ds) (hx : ∀ σ, PassesAt CX X σ (E σ)) (ha : PA X (e :: es) t)
    (hdb : (x == ("__debug__" : Str)) = false := by decide) (he : starEach (e :: es) X.env = (false, eval e X.env) :: starEach es X.env := by rfl) (hpl : (backTo pos (starEach es X.env)).any (·.1) = false := by rfl) :
    PE X (.Call (.Name x p) (e :: es) [] pos) (tMakeSD C sp dvs E t) := by
  refine ⟨fun pins s0 σ H Q I0 h => wpAny_Call_Name_kw (ld_glob I0 hg hm (PySem.W.callWith_K (h₀ := X.base) I0.ok.mod.kin M.kp (thn (ha.run pos pins s0 σ H _ I0 h) fun us s ⟨vs, H1, I, r, q⟩ => ⟨I.kIn, ?_⟩) he hpl) hdb)⟩
  have q0 := q (s.heap.objs.size + 1) s.heap.objs.size (I.hok.fresh (Nat.le_succ _)) (I.hok.fresh (Nat.le_refl _)) (Nat.ne_of_lt (Nat.lt_succ_self _))
  have J := Inv.made (C := C) I
  have rr : Vals (V.ref (s.heap.objs.size + 1) :: (vs ++ dvs)) (Value.ref (s.heap.objs.size + 1) :: (us ++ ds)) := .cons rfl (r.append hd)
  have ll : (Value.ref (s.heap.objs.size + 1) :: us ++ ds).length = ps.length := rr.length.symm.trans (F.len _ _ _ _ q0)
  refine wpAny_call (make_map (f := f) I.kIn M.makes M.init (beq_iff_eq.mp M.fn) (codeAny_mono (F.run _ X.stack _ _ ⟨Value.ref (s.heap.objs.size + 1) :: us, []⟩ (Value.ref (s.heap.objs.size + 1) :: (us ++ ds)) _ _ (E σ) (hr.make C us [])
    (J.env0.make C us []) (hb _ (Value.ref (s.heap.objs.size + 1) :: us) J.kIn ll) rr q0) fun res s' hq => ?_))
  rcases res with er | fl
  · exact hx σ pins _ _ er s' J hq
  · cases fl with
    | ret u =>
      obtain ⟨v, H', J', rv, ev, q3⟩ := J.after hq
      subst ev
      exact ⟨rv, ⟨V.ref (s.heap.objs.size + 1), H', J', rfl, q3⟩⟩
    | next => exact hq.elim
    | brk => exact hq.elim
    | cont => exact hq.elim
theorem r_makeSD {C : Addr} {sp : Sp} {dvs : List V} {E : L2.St → XK} {t : TA} {σ : L2.St} {H : Hp} {Q : V → Hp → Prop} (h : t σ H fun vs H1 => ∀ x dx, H1 x = none → H1 dx = none → dx ≠ x → sp (.ref x :: (vs ++ dvs)) (upd (upd H1 dx (.own x)) x (.ins C dx [])) (fun v H2 => v = .non ∧ Q (.ref x) H2) (E σ)) : tMakeSD C sp dvs E t σ H Q := h
theorem r_callSD {sp : Sp} {dvs : List V} {E : L2.St → XK} {t : TA} {σ : L2.St} {H : Hp} {Q : V → Hp → Prop} (h : t σ H fun vs H1 => sp (vs ++ dvs) H1 Q (E σ)) : tCallSD sp dvs E t σ H Q := h
def tMethSD (C : Addr) (m : Str) (sp : Sp) (dvs : List V) (E : L2.St → XK) (ta : TE) (t : TA) : TE := fun σ H Q => ta σ H fun x H1 => ∃ a dx fs, x = .ref a ∧ H1 a = some (.ins C dx fs) ∧ fs.lookup m = none ∧ t σ H1 fun vs H2 => sp (x :: (vs ++ dvs)) H2 Q (E σ)
theorem pe_methSD {X : Cx} {CX : CXT} {k : Nat} {f C : Addr} {fd : FuncData} {ps : List Str} {sp : Sp} {dvs : List V} {ds : List Value} {E : L2.St → XK} {o e : Expr} {m : Str} {apos pos : Pos} {es : List Expr} {ta : TE} {t : TA} {pl : Sem Bool}
    (he : PE X o ta) (c : Cls X.K C) (hm : Meth X.K C m f) (F : FnOk X.prog X.w X.K X.mg X.base CX k f fd ps sp) (hr : Room k X.A) (hb : Binds X.K fd ps ds) (hd : Vals dvs ds) (hx : ∀ σ, PassesAt CX X σ (E σ)) (ha : PA X (e :: es) t)
    (hst : starEach (e :: es) X.env = (false, eval e X.env) :: starEach es X.env := by rfl) (hpl : (backTo pos (starEach es X.env)).any (·.1) = false := by rfl)
    (ht : eval (.Call (.Attribute o m apos) (e :: es) [] pos) X.env = (do
      let ov ← eval o X.env
      standAt apos.atName
      let (f, first) ← holding [ov] (getMethod ov m pl)
      callWith pos f first (backTo pos (starEach (e :: es) X.env)) (backToKw pos (keywordEach [] X.env))) := by rfl) :
    PE X (.Call (.Attribute o m apos) (e :: es) [] pos) (tMethSD C m sp dvs E ta t) := by
  refine ⟨fun pins s σ H Q I h => PySem.W.methodCall_KW (pl := pl) (thn (he.run pins s σ H _ I h) fun u s1 ⟨x, H1, I1, rx, a, dx, fs, ex, ea, l, q⟩ => ?_) ht⟩
  subst ex
  obtain rfl : u = Value.ref a := rx
  exact getmeth_ok I1 ea c hm l (PySem.W.callWith_K (first := [.ref a]) (h₀ := X.base) I1.ok.mod.kin hm.kp (thn (ha.run pos pins s1 σ H1 _ I1 q) fun us s2 ⟨vs, H2, I2, r, q2⟩ => ⟨I2.kIn, run_fnSD (us := .ref a :: us) (vs := .ref a :: vs) F hr hb hd (hx σ) I2 (.cons rfl r) q2⟩) hst hpl)
def kMethSD (C : Addr) (m : Str) (sp : Sp) (dvs : List V) (E : L2.St → XK) (σ : L2.St) (t : TA) (Q : V → Hp → Prop) : V → Hp → Prop := fun x H1 => ∃ a dx fs, x = .ref a ∧ H1 a = some (.ins C dx fs) ∧ fs.lookup m = none ∧ t σ H1 fun vs H2 => sp (x :: (vs ++ dvs)) H2 Q (E σ)
theorem r_methSD {C : Addr} {m : Str} {sp : Sp} {dvs : List V} {E : L2.St → XK} {ta : TE} {t : TA} {σ : L2.St} {H : Hp} {Q : V → Hp → Prop} (h : ta σ H (kMethSD C m sp dvs E σ t Q)) : tMethSD C m sp dvs E ta t σ H Q := h
theorem r_kmethSD {C a dx : Addr} {fs : List (Str × V)} {m : Str} {sp : Sp} {dvs : List V} {E : L2.St → XK} {t : TA} {σ : L2.St} {H : Hp} {Q : V → Hp → Prop} (h : H a = some (.ins C dx fs)) (hl : fs.lookup m = none) (q : t σ H fun vs H2 => sp (.ref a :: (vs ++ dvs)) H2 Q (E σ)) : kMethSD C m sp dvs E σ t Q (.ref a) H := ⟨a, dx, fs, rfl, h, hl, q⟩
/-- raise X('..') -/
def tRz (C : Addr) (E : XK) : TS := fun _ _ H => E (.ref C) none H
theorem ps_rz {X : Cx} {C : Addr} {E : XK} {bmB : List Value} {B newId initId : String} {x m : Str} {j : Nat} {p p2 pos pos2 : Pos} (hc : X.calm = true) (tk : Takes X (fun cls d _ H => E cls d H)) (F : ExcBaseFacts B newId initId bmB) (q : PySem.W.excIn X.K C bmB newId = true)
    (gC : X.mg x = some (.ref C)) (kC : PySem.W.keepIn X.K (.ref C) = true) (r : Raises X (.ref C)) (hg : Gl X x) (hdb : (x == ("__debug__" : Str)) = false := by decide) :
    PS X (.Raise (some (.Call (.Name x p) [.Constant (.str m) j p2] [] pos)) none pos2) (tRz C E) := ps_raise hc tk (pmk_own F q gC kC r hg hdb)
theorem r_rz {C : Addr} {E : XK} {D : Ends} {σ : L2.St} {H : Hp} (h : E (.ref C) none H) : tRz C E D σ H := h
/-- try: .. except S as n: .. -/
def tTryA (K : PySem.W.Frag) (c : Value) (i : Nat) (tb : WX → TS) (ts : Addr → Value → Option Addr → TS) (Wout : WX) : TS := fun D σ H => tb (wAs K c i ts Wout D) D σ H
theorem ps_tryA {X : Cx} {x n : Str} {c : Value} {i : Nat} {body suite : List Stmt} {b₀ : Stmt} {np pos pos' : Pos} {tb : WX → TS} {ts : Addr → Value → Option Addr → TS} {Wout : WX} (hs : X.stack = X.env :: X.outer) (hf : X.env.frame = some X.env.locals) (hN : X.N.Nodup) (hi : X.N[i]? = some n)
    (hln : X.env.kindOf n = some .local) (hc : Names X x c) (tk : Takes X Wout)
    (hb : ∀ (W : WX) (pn : List (Addr × Obj)) (xe : Value → Shared → Prop), Takes (X.tr pn xe) W → PassesOwn (model X.prog X.w) X.A X.env xe → PSs (X.tr pn xe) body (tb W))
    (hsu : ∀ (a : Addr) (oe : Obj) (cls : Value) (d : Option Addr) (pn : List (Addr × Obj)), Zc cls d oe → (∃ vs, oe.data = .fields vs) → PSs (X.suite a ((a, oe) :: pn)) (b₀ :: suite) (ts a cls d)) :
    PS X (.Try body [.ExceptHandler (some (.Name x np)) (some n) (b₀ :: suite) pos'] [] [] pos) (tTryA X.K c i tb ts Wout) := ps_try_as hs hf hN hi hln hc tk hb hsu
theorem r_tryA {K : PySem.W.Frag} {c : Value} {i : Nat} {tb : WX → TS} {ts : Addr → Value → Option Addr → TS} {Wout : WX} {D : Ends} {σ : L2.St} {H : Hp} (h : tb (wAs K c i ts Wout D) D σ H) : tTryA K c i tb ts Wout D σ H := h
/-- what the suite is asked of an own exception without fields -/
theorem wAs_own {K : PySem.W.Frag} {c : Value} {i : Nat} {ts : Addr → Value → Option Addr → TS} {Wout : WX} {D : Ends} {C : Addr} {σ : L2.St} {H : Hp} (e : PySem.W.exmOne K (.ref C) c = some true)
    (h : ∀ a, H a = none → ts a (.ref C) none { nx := fun σ' H' => D.nx (σ'.set i none) H', rt := D.rt, bk := fun σ' H' => D.bk (σ'.set i none) H', ct := fun σ' H' => D.ct (σ'.set i none) H' } (σ.set i (some (.ref a))) H) : wAs K c i ts Wout D (.ref C) none σ H :=
  ⟨true, e, fun _ => h, fun z => nomatch z⟩
/-- isinstance(e, c) within the suite, its class told by the reading -/
def rIsX (K : PySem.W.Frag) (a : Addr) (cls : Value) (d : Option Addr) : List V → Hp → VK → Prop := fun xs H Q => ∃ (D : Addr) (c : V) (cv : Value) (b : Bool), cls = .ref D ∧ d = none ∧ ExcC K D ∧ xs = [.ref a, c] ∧ (∀ u, RelV c u → u = cv) ∧ PySem.W.kitOne K (.ref D) cv = some b ∧ Q (.bl b) H
theorem call_isX {X : Cx} {a : Addr} {cls : Value} {d : Option Addr} {oe : Obj} {pn : List (Addr × Obj)} (hz : Zc cls d oe) (hf : ∃ vs, oe.data = .fields vs) : CallR (X.suite a ((a, oe) :: pn)) (.builtin "isinstance") (rIsX X.K a cls d) := by
  intro pins s σ H xs us Q I r h
  obtain ⟨D, c, cv, b, rfl, rfl, hE, e1, e2, e3, q⟩ := h
  exact call_isE hE hz hf pins s σ H xs us Q I r ⟨c, cv, b, e1, e2, e3, q⟩
theorem r_isXc {K : PySem.W.Frag} {a D C : Addr} {b : Bool} {H : Hp} {Q : V → Hp → Prop} (hE : ExcC K D) (hk : PySem.W.kitOne K (.ref D) (.ref C) = some b) (q : Q (.bl b) H) : rIsX K a (.ref D) none [.ref a, .ref C] H Q := ⟨D, _, _, b, rfl, rfl, hE, rfl, fun _ r => r, hk, q⟩
theorem r_isXt {K : PySem.W.Frag} {a D : Addr} {t : String} {b : Bool} {H : Hp} {Q : V → Hp → Prop} (hE : ExcC K D) (hk : PySem.W.kitOne K (.ref D) (.type t) = some b) (q : Q (.bl b) H) : rIsX K a (.ref D) none [.ref a, .ty t] H Q := ⟨D, _, _, b, rfl, rfl, hE, rfl, fun _ r => r, hk, q⟩
/-- isinstance against an own class, and a built-in one -/
theorem kit_own {K : PySem.W.Frag} {t : Value} {C : Addr} {b : Bool} (hd : PySem.W.hasDictIn K C = true) (ht : PySem.W.typeIn K (.ref C) = some (.type "type")) (hs : PySem.W.subIn K t (.ref C) = some b) (hn : b = true ∨ (t == .ref C) = false) : PySem.W.kitOne K t (.ref C) = some b := by
  obtain ⟨cd, hc, _⟩ := PySem.W.any_some hd
  unfold PySem.W.kitOne PySem.W.kitCls
  cases e : (t == Value.ref C) with
  | true =>
    rcases hn with rfl | h
    · rfl
    · rw [e] at h; cases h
  | false =>
    rw [if_neg Bool.false_ne_true]
    dsimp only
    rw [hc, ht]
    exact hs
theorem kit_blt {K : PySem.W.Frag} {C : Addr} {T : String} {b : Bool} (hk : PySem.W.kitMeta T = true) (hs : PySem.W.subIn K (.ref C) (.type T) = some b) : PySem.W.kitOne K (.ref C) (.type T) = some b := by
  unfold PySem.W.kitOne PySem.W.kitCls
  rw [if_neg (by intro z; cases z)]
  dsimp only
  rw [if_pos hk]
  exact hs

/-! ### raise X(f'..') -/
def tRzF (C : Addr) (E : XK) (ta : TE) : TS := fun _ σ H => ta σ H fun _ H1 => E (.ref C) none H1
theorem ps_rzF {X : Cx} {C : Addr} {E : XK} {bmB : List Value} {B newId initId : String} {x : Str} {e : Expr} {ta : TE} {p pos pos2 : Pos} (hc : X.calm = true) (tk : Takes X (fun cls d _ H => E cls d H)) (F : ExcBaseFacts B newId initId bmB) (q : PySem.W.excIn X.K C bmB newId = true)
    (gC : X.mg x = some (.ref C)) (kC : PySem.W.keepIn X.K (.ref C) = true) (r : Raises X (.ref C)) (hg : Gl X x) (he : PE X e ta) (hs : starEach [e] X.env = (false, eval e X.env) :: starEach [] X.env := by rfl) (hdb : (x == ("__debug__" : Str)) = false := by decide) :
    PS X (.Raise (some (.Call (.Name x p) [e] [] pos)) none pos2) (tRzF C E ta) := ps_raise hc tk (SkE.pmk_own1 F q gC kC r hg he hs hdb)
theorem r_rzF {C : Addr} {E : XK} {ta : TE} {D : Ends} {σ : L2.St} {H : Hp} (h : ta σ H fun _ H1 => E (.ref C) none H1) : tRzF C E ta D σ H := h
def kJs (ts : List TE) (acc : Str) (σ : L2.St) (Q : Str → Hp → Prop) : V → Hp → Prop := fun x H1 => ∃ y : Str, x = .str y ∧ (acc ++ y).length ≤ sizeLine ∧ tJs ts (acc ++ y) σ H1 Q
theorem r_js {t : TE} {ts : List TE} {acc : Str} {σ : L2.St} {H : Hp} {Q : Str → Hp → Prop} (h : t σ H (kJs ts acc σ Q)) : tJs (t :: ts) acc σ H Q := h
theorem r_kjs {ts : List TE} {acc y : Str} {σ : L2.St} {H : Hp} {Q : Str → Hp → Prop} (hl : (acc ++ y).length ≤ 1000000) (q : tJs ts (acc ++ y) σ H Q) : kJs ts acc σ Q (.str y) H := ⟨y, rfl, by rw [sz]; omega, q⟩
def kFmt (Q : V → Hp → Prop) : V → Hp → Prop := fun x H1 => (∃ y : Str, x = .str y ∧ y.length ≤ sizeLine ∧ Q (.str y) H1) ∨ ∃ i : Int, x = .int i ∧ i.natAbs.log2 < 1920 ∧ Q (.str (toString i)) H1
theorem r_fmt {te : TE} {σ : L2.St} {H : Hp} {Q : V → Hp → Prop} (h : te σ H (kFmt Q)) : tFmt te σ H Q := h
theorem r_kfmt {i : Int} {H : Hp} {Q : V → Hp → Prop} (hz : i.natAbs.log2 < 1920) (q : Q (.str (toString i)) H) : kFmt Q (.int i) H := .inr ⟨i, rfl, hz, q⟩
theorem r_js0 {acc : Str} {σ : L2.St} {H : Hp} {Q : Str → Hp → Prop} (h : Q acc H) : tJs [] acc σ H Q := h
local macro_rules | `(tactic| walk_at "rd1") => `(tactic| with_reducible (first | refine' Sg.r_rzF ?_ | refine' Sg.r_rz ?_ | refine' Sg.r_js ?_ | (refine' Sg.r_kjs ?hl ?_; (case hl => (with_unfolding_all decide +kernel))) | refine' Sg.r_fmt ?_ | (refine' Sg.r_kfmt ?hz ?_; (case hz => (with_unfolding_all decide))) | refine' Sg.r_js0 ?_))

/-! ### numbers drawn from the script (the cell of an empty script is its number) -/
def sp_row (K : PySem.W.Frag) : Sp := fun vs H Q _ => ∃ (a : Addr) (ns : List Int) (k : Int), vs = [.ref a, .int k] ∧ SqL K H a (ns.map V.int) ∧ ns.length ≤ 63 ∧ 0 ≤ k ∧ k ≤ 1000 ∧ ∀ z : Int, 0 ≤ z → Q (.int z) H
theorem ok_law_row (T : Txt K mg) : FnOk P w K mg base CX0 1 T.a_law_row T.fd_law_row ["script", "k"] (sp_row K) := by
  refine T.F_law_row.ok sc_law_row (fun vs H Q E h => ?_) (fun cdv A outer s H vs Q E hr h => ?_)
  · obtain ⟨a, ns, k, rfl, _⟩ := h
    rfl
  · refine ⟨_, (pss_cons (ps_set (i := 2) sc_law_row.nd rfl (Or.inl rfl) (pv 1))
       (C8.pss_cut (ps_if (pt_cmpR op_gt (pe_callB (c_len) (by rfl) T.n_len (by decide +kernel) (pa_cons (pv 0) pa_nil)) pe_int (nomark _))
       (pss_one (ps_set (i := 2) sc_law_row.nd rfl (Or.inl rfl) (pe_callTy c_int (by rfl) T.n_int (by decide +kernel) (pa_cons (pe_ix ix_list (pv 0) (pe_op op_mod (pv 1) (pe_callB (c_len) (by rfl) T.n_len (by decide +kernel) (pa_cons (pv 0) pa_nil))) (fun _ _ => rfl)) pa_nil))))
       pss_nil)
       (C8.pss_cut (ps_if (pt_cmpR op_lt (pv 2) pe_int (nomark _))
       (pss_one (ps_set (i := 2) sc_law_row.nd rfl (Or.inl rfl) (pe_op op_sub (pe_op op_mul (pe_un un_neg pe_int) (pv 2)) pe_int)))
       pss_nil)
       (C8.pss_cut (ps_if (PW.pt (pw_and (pt_cmpR op_lt (pv 1) (pe_callB (c_len) (by rfl) T.n_len (by decide +kernel) (pa_cons (pv 0) pa_nil)) (nomark _)) (pw_and1 (pt_cmpR op_ge (pv 2) (pe_op op_pow pe_int pe_int) (nomark _)))))
       (pss_one (ps_ret (pv 2)))
       pss_nil)
       (pss_cons (ps_set (i := 3) sc_law_row.nd rfl (Or.inl rfl) (pe_op op_mod (pe_callTy c_int (by rfl) T.n_int (by decide +kernel) (pa_cons (pe_op op_add (pe_op op_add (pe_op op_mul (pv 2) pe_int) (pe_op op_mul (pv 1) pe_int)) pe_int) pa_nil)) pe_int))
       (pss_cons (ps_set (i := 4) sc_law_row.nd rfl (Or.inl rfl) (pe_op op_mod (pe_callTy c_int (by rfl) T.n_int (by decide +kernel) (pa_cons (pe_op op_add (pe_op op_add (pe_op op_add (pe_op op_mul (pv 3) pe_int) (pv 2)) (pe_op op_mul (pv 1) pe_int)) pe_int) pa_nil)) pe_int))
       (pss_cons (ps_set (i := 3) sc_law_row.nd rfl (Or.inl rfl) (pe_op op_mod (pe_callTy c_int (by rfl) T.n_int (by decide +kernel) (pa_cons (pe_op op_add (pe_op op_add (pe_op op_mul (pv 3) pe_int) (pe_op op_mul (pv 4) pe_int)) (pv 1)) pa_nil)) pe_int))
       (pss_one (ps_ret (pe_op op_add (pe_op op_mul (pv 4) pe_int) (pv 3))))))))))), ?_⟩
    try dsimp only [cxOf, Cx.nox, Cx.wish]
    obtain ⟨a, ns, k, rfl, hS, h63, k0, k1, q⟩ := h
    walk_at "rd"
    refine r_cut (fun σ' H' => ∃ z : Int, σ' = [some (.ref a), some (.int k), some (.int z), none, none] ∧ H = H') ?_ ?_
    · walk_at "rd"
      refine r_ite (fun hlen => ?_) (fun _ => ?_)
      · rw [List.length_map] at hlen
        walk_at "rd"
        rename_i z hz z0 z1
        rw [List.length_map] at z1
        refine r_ixl hS (v := .int (ns.getD z.toNat 0)) ?_ ?_
        · obtain ⟨n, rfl⟩ := Int.eq_ofNat_of_zero_le z0
          refine atI_nat ?_
          have hn : n < ns.length := by omega
          rw [List.getElem?_map, List.getElem?_eq_getElem hn, List.getD_eq_getElem?_getD, Int.toNat_natCast, List.getElem?_eq_getElem hn]
          rfl
        · walk_at "rd"
          exact ⟨_, rfl, rfl⟩
      · exact ⟨_, rfl, rfl⟩
    · rintro _ _ ⟨z, rfl, rfl⟩
      walk_at "rd"
      refine r_cut (fun σ' H' => ∃ z : Int, 0 ≤ z ∧ σ' = [some (.ref a), some (.int k), some (.int z), none, none] ∧ H = H') ?_ ?_
      · walk_at "rd"
        refine r_ite (fun _ => ?_) (fun _ => ?_)
        · walk_at "rd"
          exact ⟨_, by omega, rfl, rfl⟩
        · exact ⟨_, by omega, rfl, rfl⟩
      · rintro _ _ ⟨y, y0, rfl, rfl⟩
        walk_at "rd"
        refine r_cutS ?_ ?_
        · walk_at "rd"
          refine r_ite (fun _ => ?_) (fun _ => ?_)
          · walk_at "rd"
            refine r_ite (fun _ => ?_) (fun _ => ?_)
            · walk_at "rd"
              exact q _ y0
            · exact ⟨rfl, rfl⟩
          · walk_at "rd"
            exact ⟨rfl, rfl⟩
        · walk_at "rd"
          exact q _ (by omega)

local macro_rules | `(tactic| walk_at "rx1") => `(tactic| with_reducible (first | refine' Sg.r_prop ?_ | (refine' Sg.r_kprop ?h ?_; (case h => (with_unfolding_all walk_at "hp"))) | refine' Sg.r_irev ?_ | (refine' Sg.r_kIv ?h ?_; (case h => (with_unfolding_all walk_at "hp"))) | refine' Sg.r_makeN ?_ | refine' Sg.r_callN ?_ | refine' Sg.r_makeSD ?_ | refine' Sg.r_callSD ?_ | refine' Sg.r_methSD ?_ | (refine' Sg.r_kmethSD ?h ?hl ?_; (case h => (with_unfolding_all walk_at "hp")); (case hl => (with_unfolding_all walk_at "lk"))) | refine' Sg.r_tryA ?_ | refine' Sg.r_din ?_ | refine' Sg.r_kdi ?_ | (refine' Sg.r_kdi2 ?h ?_; (case h => (with_unfolding_all walk_at "hp"))) | (refine' Sg.r_kdi2f ?h ?_; (case h => assumption)) | refine' Sg.r_dnotin ?_ | refine' Sg.r_kdn ?_ | (refine' Sg.r_kdn2 ?h ?_; (case h => (with_unfolding_all walk_at "hp"))) | refine' Sg.r_dget ?_ | refine' Sg.r_kdg ?_ | refine' Sg.r_dget1 ?_ | (refine' Sg.r_kdt ?h ?_; (case h => (with_unfolding_all walk_at "hp"))) | (refine' Sg.r_kdt2 ?h ?_; (case h => (with_unfolding_all walk_at "hp"))) | refine' Sg.r_dput ?_ | refine' Sg.r_kdp ?_ | refine' Sg.r_kdp2 ?_ | (refine' Sg.r_kdp3 ?h ?hl ?_; (case h => (with_unfolding_all walk_at "hp")); (case hl => (with_unfolding_all walk_at "side")); (with_unfolding_all walk_at "up")) | refine' Sg.r_ddel ?_ | refine' Sg.r_kdd ?_ | refine' Sg.r_dpop1 ?_ | (refine' Sg.r_kdo ?h ?_; (case h => (with_unfolding_all walk_at "hp"))) | refine' Sg.r_ikeys ?_ | (refine' Sg.r_kIk ?h ?_; (case h => assumption)) | (refine' Sg.r_dnew ?_; (with_unfolding_all walk_at "al")) | (refine' Sg.r_lenD ?h ?_; (case h => (with_unfolding_all walk_at "hp"))) | (refine' Sg.r_dictD ?h ?_; (case h => (with_unfolding_all walk_at "hp")); (with_unfolding_all walk_at "al"))))
local macro_rules | `(tactic| walk_at "rx") => `(tactic| repeat (first | walk_at "rd1" | walk_at "rx1"))
/-! ### enumerate of a list -/
def kIe (K : PySem.W.Frag) (R : It → Hp → Prop) : List V → Hp → Prop := fun vs H1 => ∃ a xs, vs = [.ref a] ∧ SqL K H1 a xs ∧ R (Ite K a) H1
theorem r_ienum {K : PySem.W.Frag} {ta : TA} {σ : L2.St} {H : Hp} {R : It → Hp → Prop} (h : ta σ H (kIe K R)) : iEnum K ta σ H R := h
theorem r_kIe {K : PySem.W.Frag} {a : Addr} {xs : List V} {H : Hp} {R : It → Hp → Prop} (h1 : SqL K H a xs) (h : R (Ite K a) H) : kIe K R [.ref a] H := ⟨a, xs, rfl, h1, h⟩
theorem r_forE {K : PySem.W.Frag} {a : Addr} {xs : List V} {σ : L2.St} {H : Hp} {D : Ends} {g : TG} {tb : TS} (Pv : Nat → L2.St → Hp → Prop) (h0 : Pv 0 σ H) (hl : ∀ i σ H, i ≤ xs.length → Pv i σ H → SqL K H a xs)
    (hs : ∀ (i : Nat) (x : V) (σ : L2.St) (H H' : Hp) (T : Addr), xs[i]? = some x → Pv i σ H → H T = none → upd H T (.tup [.int (i : Nat), x]) = H' → g (.ref T) σ H' fun σ2 H2 => tb { D with nx := Pv (i + 1), ct := Pv (i + 1), bk := D.nx } σ2 H2)
    (hd : ∀ σ H, Pv xs.length σ H → D.nx σ H) : kFor g tb D σ (Ite K a) H :=
  for_it walk_enum Pv h0 hl (fun i x σ H H' hlt p y => by
    obtain ⟨T, z, w, e1, e2, e3, e4, e5⟩ := y
    cases e4
    rw [e1]
    exact hs i w σ H H' T e5 p e2 e3.symm) hd
def SqI (K : PySem.W.Frag) (H : Hp) (l : Addr) (ns : List Int) : Prop := SqL K H l (ns.map V.int) ∨ SqT K H l (ns.map V.int)
theorem SqI.mono {K : PySem.W.Frag} {H H' : Hp} {l : Addr} {ns : List Int} (s : Same H H') (h : SqI K H l ns) : SqI K H' l ns := h.imp (fun h => s.seq h) (fun h => Same.tup s h)
theorem inV_ints (k : Int) : ∀ ns : List Int, inV (.int k) (ns.map V.int) = decide (k ∈ ns)
  | [] => rfl
  | n :: ns => by
    have ih := inV_ints k ns
    unfold inV at ih ⊢
    rw [List.map_cons, List.any_cons, ih]
    by_cases e : k = n
    · subst e
      simp [eqV]
    · have e' : ¬ n = k := fun z => e z.symm
      simp [eqV, e, e']
theorem flat_ints : ∀ ns : List Int, (ns.map V.int).all flatV = true
  | [] => rfl
  | n :: ns => by rw [List.map_cons, List.all_cons, flat_ints ns]; rfl

theorem r_neI {K : PySem.W.Frag} {H : Hp} {a b : Addr} {ns : List Int} {Q : V → Hp → Prop} (ha : SqL K H a (ns.map V.int)) (hb : SqL K H b (ns.map V.int)) (q : Q (.bl false) H) : rNeD K (.ref a) (.ref b) H Q := by
  refine r_ned (Dp.ints ha) (Dp.ints hb) (Fl.intlS ns) (Fl.intlS ns) ?_
  rw [(Fl.intl ns).self]
  exact q
theorem r_eqI {K : PySem.W.Frag} {H : Hp} {a b : Addr} {ns : List Int} {Q : V → Hp → Prop} (ha : SqL K H a (ns.map V.int)) (hb : SqL K H b (ns.map V.int)) (q : Q (.bl true) H) : rEqD K (.ref a) (.ref b) H Q := by
  refine r_eqd (Dp.ints ha) (Dp.ints hb) (Fl.intlS ns) (Fl.intlS ns) ?_
  rw [(Fl.intl ns).self]
  exact q

/-! ### comprehensions whose items follow from what is walked -/
theorem r_lcF {α : Type} {J : It} {n slot : Nat} {G : Hp → Prop} {Y : Nat → Hp → V → Hp → Prop} {vs : List Nat} {te : TE} {σ : L2.St} {H : Hp} {Q : V → Hp → Prop} (w : Walk J n G Y) (xs : List α) (hn : xs.length = n) (hmax : n ≤ 100000) (g f : α → V)
    (hY : ∀ i H x H', Y i H x H' → H' = H ∧ ∃ u, xs[i]? = some u ∧ x = g u) (hG : ∀ H', L2.Same H H' → G H') (hv : vs = [slot])
    (hs : ∀ (i : Nat) (u : α) (H' : Hp), xs[i]? = some u → L2.Same H H' → ∀ R : V → Hp → Prop, (∀ H'', L2.Same H' H'' → R (f u) H'') → te ((wipe σ vs).set slot (some (g u))) H' R)
    (q : ∀ (H' : Hp) (l : Addr), L2.Same H H' → H l = none → H' l = some (.lst (xs.map f)) → Q (.ref l) H') : kLc (gName slot) tYes te vs σ Q J H := by
  intro L hL
  have hw : ∀ (τ : L2.St) (x : V), wipe (τ.set slot (some x)) [slot] = wipe τ [slot] := fun τ x => by simp [wipe, List.set_set]
  have hw2 : wipe (wipe σ vs) vs = wipe σ vs := by subst hv; simp [wipe, List.set_set]
  refine lc_it w (fun i H' => H' L = some (.lst ((xs.take i).map f)) ∧ L2.Same H H') ⟨upd_same, fun b o e => by rw [upd_ne (ne_of_none e hL)]; exact e⟩ (fun i H' _ p => hG H' p.2) ?_ ?_
  · rintro i x H' H'' hi ⟨eL, s⟩ y
    obtain ⟨rfl, u, hu, rfl⟩ := hY _ _ _ _ y
    refine ⟨?_, ?_⟩
    · subst hv
      rw [hw]
      exact hw2
    · show te ((wipe σ vs).set slot (some (g u))) H'' _
      refine hs i u _ hu s _ fun H3 s3 => ⟨_, s3 _ _ eL, ?_, ?_, ?_⟩
      · rw [List.length_map, List.length_take, sz]
        omega
      · rw [upd_same, List.take_add_one, hu, List.map_append]
        rfl
      · intro b o e
        rw [upd_ne (ne_of_none e hL)]
        exact s3 _ _ (s _ _ e)
  · rintro H' ⟨eL, s⟩
    rw [← hn, List.take_length] at eL
    exact q H' L s hL eL
theorem r_lcS {z : Str} {slot : Nat} {vs : List Nat} {te : TE} {σ : L2.St} {H : Hp} {Q : V → Hp → Prop} (f : Nat → V) (hmax : z.length ≤ 100000) (hv : vs = [slot])
    (hs : ∀ (i : Nat) (c : Nat) (H' : Hp), z.cps.toList[i]? = some c → L2.Same H H' → ∀ R : V → Hp → Prop, (∀ H'', L2.Same H' H'' → R (f c) H'') → te ((wipe σ vs).set slot (some (.str (SX.S [c])))) H' R)
    (q : ∀ (H' : Hp) (l : Addr), L2.Same H H' → H l = none → H' l = some (.lst (z.cps.toList.map f)) → Q (.ref l) H') : kLc (gName slot) tYes te vs σ Q (Its z) H :=
  r_lcF walk_str z.cps.toList (Array.length_toList) hmax (fun c => .str (SX.S [c])) f (fun i H x H' ⟨e, c, hc, hx⟩ => ⟨e, c, by simpa using hc, hx⟩) (fun _ _ => trivial) hv hs q
theorem r_lcLF {K : PySem.W.Frag} {a : Addr} {ns : List Int} {slot : Nat} {vs : List Nat} {te : TE} {σ : L2.St} {H : Hp} {Q : V → Hp → Prop} (f : Int → V) (hx : SqL K H a (ns.map V.int)) (hmax : ns.length ≤ 100000) (hv : vs = [slot])
    (hs : ∀ (i : Nat) (c : Int) (H' : Hp), ns[i]? = some c → L2.Same H H' → ∀ R : V → Hp → Prop, (∀ H'', L2.Same H' H'' → R (f c) H'') → te ((wipe σ vs).set slot (some (.int c))) H' R)
    (q : ∀ (H' : Hp) (l : Addr), L2.Same H H' → H l = none → H' l = some (.lst (ns.map f)) → Q (.ref l) H') : kLc (gName slot) tYes te vs σ Q (Itl K a) H :=
  r_lcF (walk_list (K := K) (a := a) (xs := ns.map V.int)) ns (by rw [List.length_map]) (by rw [List.length_map]; exact hmax) V.int f (fun i H x H' ⟨e, hx⟩ => by
    rw [List.getElem?_map] at hx
    obtain ⟨y, hy, rfl⟩ := Option.map_eq_some_iff.mp hx
    exact ⟨e, y, hy, rfl⟩) (fun H' s => s.seq hx) hv hs q
theorem r_lcTF {K : PySem.W.Frag} {a : Addr} {ns : List Int} {slot : Nat} {vs : List Nat} {te : TE} {σ : L2.St} {H : Hp} {Q : V → Hp → Prop} (f : Int → V) (hx : SqT K H a (ns.map V.int)) (hmax : ns.length ≤ 100000) (hv : vs = [slot])
    (hs : ∀ (i : Nat) (c : Int) (H' : Hp), ns[i]? = some c → L2.Same H H' → ∀ R : V → Hp → Prop, (∀ H'', L2.Same H' H'' → R (f c) H'') → te ((wipe σ vs).set slot (some (.int c))) H' R)
    (q : ∀ (H' : Hp) (l : Addr), L2.Same H H' → H l = none → H' l = some (.lst (ns.map f)) → Q (.ref l) H') : kLc (gName slot) tYes te vs σ Q (Itt K a) H :=
  r_lcF (walk_tup (K := K) (a := a) (xs := ns.map V.int)) ns (by rw [List.length_map]) (by rw [List.length_map]; exact hmax) V.int f (fun i H x H' ⟨e, hx⟩ => by
    rw [List.getElem?_map] at hx
    obtain ⟨y, hy, rfl⟩ := Option.map_eq_some_iff.mp hx
    exact ⟨e, y, hy, rfl⟩) (fun H' s => Same.tup s hx) hv hs q
/-! ### a list or a tuple is walked -/
def iSeq (K : PySem.W.Frag) (te : TE) : TI := fun σ H R => iList K te σ H R ∨ iTup K te σ H R
theorem pi_seq {X : Cx} {tg e : Expr} {te : TE} (h1 : PI X tg e (iList X.K te)) (h2 : PI X tg e (iTup X.K te)) : PI X tg e (iSeq X.K te) :=
  ⟨fun pins s σ H R I h => h.elim (h1.run pins s σ H R I) (h2.run pins s σ H R I)⟩
theorem r_lcSeq {K : PySem.W.Frag} {a : Addr} {ns : List Int} {j slot : Nat} {vs : List Nat} {te : TE} {σ : L2.St} {H : Hp} {Q : V → Hp → Prop} (f : Int → V) (h0 : σ[j]? = some (some (.ref a))) (hx : SqI K H a ns) (hmax : ns.length ≤ 100000) (hv : vs = [slot])
    (hs : ∀ (i : Nat) (c : Int) (H' : Hp), ns[i]? = some c → L2.Same H H' → ∀ R : V → Hp → Prop, (∀ H'', L2.Same H' H'' → R (f c) H'') → te ((wipe σ vs).set slot (some (.int c))) H' R)
    (q : ∀ (H' : Hp) (l : Addr), L2.Same H H' → H l = none → H' l = some (.lst (ns.map f)) → Q (.ref l) H') : iSeq K (tVar j) σ H (kLc (gName slot) tYes te vs σ Q) := by
  rcases hx with hx | hx
  · exact .inl ⟨_, h0, a, rfl, ⟨_, hx⟩, r_lcLF f hx hmax hv hs q⟩
  · exact .inr ⟨_, h0, a, rfl, ⟨_, hx⟩, r_lcTF f hx hmax hv hs q⟩
/-! ### texts -/
theorem r_addS {a b : Str} {H : Hp} {Q : V → Hp → Prop} (hl : a.length + b.length ≤ 1000000) (q : Q (.str (a ++ b)) H) : (fun x y H Q => ∃ i j, x = V.str i ∧ y = V.str j ∧ i.length + j.length ≤ sizeLine ∧ Q (V.str (i ++ j)) H : R2) (.str a) (.str b) H Q :=
  ⟨a, b, rfl, rfl, by rw [sz]; omega, q⟩
theorem r_ixs {z : Str} {i : Int} {c : Nat} {H : Hp} {Q : V → Hp → Prop} (hl : z.length ≤ 1000000) (e : atI z.cps.toList i = some c) (q : Q (.str (SX.S [c])) H) : rIxS (.str z) (.int i) H Q := ⟨z, i, c, rfl, rfl, by rw [sz]; omega, e, q⟩
theorem app_tl (a b : Str) : (a ++ b).cps.toList = a.cps.toList ++ b.cps.toList := TL.tl_append a b
theorem app_len (a b : Str) : (a ++ b).length = a.length + b.length := by
  show (a.cps ++ b.cps).size = _
  rw [Array.size_append]
  rfl
theorem len_tl (z : Str) : z.cps.toList.length = z.length := Array.length_toList
def goodN (c : Nat) : Bool := decide (32 ≤ c) && (decide (c ≤ 126) && !decide (c = 37))
def goodI (i : Int) : Bool := decide (32 ≤ i) && (decide (i ≤ 126) && !decide (i = 37))
theorem goodI_nat (c : Nat) : goodI (c : Int) = goodN c := by
  unfold goodI goodN
  rw [Bool.eq_iff_iff]
  simp only [Bool.and_eq_true, decide_eq_true_eq, Bool.not_eq_true', decide_eq_false_iff_not]
  omega
theorem goodI_iff {i : Int} : goodI i = true ↔ 32 ≤ i ∧ i ≤ 126 ∧ i ≠ 37 := by
  unfold goodI
  simp only [Bool.and_eq_true, decide_eq_true_eq, Bool.not_eq_true', decide_eq_false_iff_not, ne_eq]
theorem goodI_false {i : Int} (h : ¬ (32 ≤ i ∧ i ≤ 126 ∧ i ≠ 37)) : goodI i = false := by
  cases e : goodI i with
  | false => rfl
  | true => exact absurd (goodI_iff.mp e) h
/-- the octets of a text -/
def ocs (z : Str) : List Int := z.cps.toList.map fun c : Nat => (c : Int)
theorem ocs_back (z : Str) : SX.S ((ocs z).map Int.toNat) = z := by
  unfold ocs
  rw [List.map_map]
  have e : (Int.toNat ∘ fun c : Nat => (c : Int)) = id := by funext c; rfl
  rw [e, List.map_id]
theorem ocs_good (z : Str) : (ocs z).all goodI = z.cps.toList.all goodN := by
  unfold ocs
  rw [List.all_map, show (goodI ∘ fun c : Nat => (c : Int)) = goodN from funext goodI_nat]
theorem ocs_S {ns : List Int} (h : ∀ x ∈ ns, 0 ≤ x) : ocs (SX.S (ns.map Int.toNat)) = ns := by
  unfold ocs
  show (ns.map Int.toNat).map (fun c : Nat => (c : Int)) = ns
  rw [List.map_map]
  conv => rhs; rw [← List.map_id ns]
  refine List.map_congr_left fun x hx => ?_
  have := h x hx
  show ((x.toNat : Nat) : Int) = x
  omega
theorem joinL_one : ∀ l : List Nat, TL.joinL [] (l.map fun c => [c]) = l
  | [] => rfl
  | [c] => rfl
  | c :: d :: r => by
    have ih := joinL_one (d :: r)
    rw [List.map_cons, List.map_cons]
    rw [List.map_cons] at ih
    show [c] ++ ([] ++ TL.joinL [] ([d] :: r.map fun c => [c])) = c :: d :: r
    rw [ih]
    rfl
theorem sum_ones : ∀ l : List Nat, ((l.map fun c => SX.S [c]).map (·.length)).sum = l.length
  | [] => rfl
  | c :: r => by
    rw [List.map_cons, List.map_cons, List.sum_cons, sum_ones r, SX.S_len, List.length_cons, List.length_cons, List.length_nil]
    omega

/-! ### slices of lists of ints -/
theorem sIx_nn {n d : Nat} {v : Int} (h : 0 ≤ v) : HT.sIx n d (some v) = min v.toNat n := by
  show (if v < 0 then (v + (n : Int)).toNat else min v.toNat n) = _
  rw [if_neg (by omega)]
theorem cut_from {xs : List V} {lo : Int} (h : 0 ≤ lo) : cutV xs (some lo) none = xs.drop lo.toNat := by
  unfold cutV
  rw [sIx_nn h, HT.sIx_none]
  by_cases c : lo.toNat ≤ xs.length
  · rw [Nat.min_eq_left c]
    exact List.take_of_length_le (by rw [List.length_drop]; omega)
  · rw [Nat.min_eq_right (by omega), List.drop_length, List.drop_of_length_le (by omega), List.take_nil]
theorem cut_to {xs : List V} {hi : Int} (h : 0 ≤ hi) : cutV xs none (some hi) = xs.take hi.toNat := by
  unfold cutV
  rw [sIx_nn h, HT.sIx_none, List.drop_zero, Nat.sub_zero]
  by_cases c : hi.toNat ≤ xs.length
  · rw [Nat.min_eq_left c]
  · rw [Nat.min_eq_right (by omega), List.take_length, List.take_of_length_le (by omega)]
theorem cut_both {xs : List V} {lo hi : Int} (h : 0 ≤ lo) (h' : 0 ≤ hi) : cutV xs (some lo) (some hi) = (xs.drop lo.toNat).take (hi.toNat - lo.toNat) := by
  unfold cutV
  rw [sIx_nn h, sIx_nn h']
  by_cases c : lo.toNat ≤ xs.length
  · rw [Nat.min_eq_left c]
    by_cases c2 : hi.toNat ≤ xs.length
    · rw [Nat.min_eq_left c2]
    · rw [Nat.min_eq_right (by omega), List.take_of_length_le (by rw [List.length_drop]; omega), List.take_of_length_le (by rw [List.length_drop]; omega)]
  · rw [Nat.min_eq_right (by omega : xs.length ≤ lo.toNat), List.drop_length, List.drop_of_length_le (by omega), List.take_nil, List.take_nil]

section
open PySem.Spec PyProof.Rows
/-! ### text * int; the signs of a text, one by one -/
def mulS (s : Str) (n : Nat) : Str := SX.S (List.replicate n s.cps.toList).flatten
theorem fold_app (x : Array Nat) : ∀ (n : Nat) (acc : Array Nat), ((List.replicate n x).foldl (· ++ ·) acc).toList = acc.toList ++ (List.replicate n x.toList).flatten
  | 0, acc => by simp
  | n + 1, acc => by
    rw [List.replicate_succ, List.foldl_cons, fold_app x n, List.replicate_succ, List.flatten_cons, Array.toList_append, List.append_assoc]
def rMulS : R2 := fun x y H Q => ∃ (s : Str) (n : Int), x = .str s ∧ y = .int n ∧ -1000000 ≤ n ∧ n ≤ 1000000 ∧ s.length * n.toNat ≤ 1000000 ∧ Q (.str (mulS s n.toNat)) H
theorem str_ext {a b : Str} (h : a.cps.toList = b.cps.toList) : a = b := by
  cases a; cases b
  exact congrArg _ (Array.toList_inj.mp h)
theorem op_mulS {X : Cx} : OpR X (binaryOp .Mult) rMulS := by
  intro pins z σ H x y v u Q I rx ry h
  obtain ⟨s, n, rfl, rfl, n0, n1, hl, q⟩ := h
  obtain ⟨t, rfl⟩ := rx
  obtain ⟨t2, rfl⟩ := ry
  have e0 : ¬ n < -(2 ^ 63 : Int) := by omega
  have e1 : ¬ n ≥ 2 ^ 63 := by omega
  refine PySem.P.mul_str (by rw [decide_eq_false e0, decide_eq_false e1]; rfl) (fun h1 _ => ?_) (fun h1 _ => ?_) ?_
  · have hp : 0 < n := by omega
    have h2 : (s.length : Int) * n ≤ 2 ^ 63 - 1 := by
      have : (s.length : Int) * n = ((s.length * n.toNat : Nat) : Int) := by rw [Int.natCast_mul, Int.toNat_of_nonneg (by omega)]
      rw [this]
      omega
    have := (Int.le_ediv_iff_mul_le hp).mpr h2
    omega
  · show decide (s.length * n.toNat > sizeLine) = false
    exact decide_eq_false (by rw [sizeLine_eq]; omega)
  · by_cases c : n < 1
    · rw [if_pos c]
      refine ⟨by decide, ⟨.str (mulS s n.toNat), H, I.tok _, ⟨z.toks, ?_⟩, q⟩⟩
      rw [show n.toNat = 0 by omega]
      rfl
    · rw [if_neg c]
      by_cases d : (n == 1 || s.length == 0) = true
      · rw [if_pos d]
        have : mulS s n.toNat = s := by
          refine str_ext ?_
          show (List.replicate n.toNat s.cps.toList).flatten = s.cps.toList
          rcases Bool.or_eq_true_iff.mp d with d | d
          · have : n = 1 := eq_of_beq d
            subst this
            simp
          · have : s.length = 0 := eq_of_beq d
            have : s.cps.toList = [] := List.eq_nil_of_length_eq_zero (by rw [Array.length_toList]; exact this)
            rw [this]
            simp
        exact ⟨.str (mulS s n.toNat), H, I, ⟨t, by rw [this]⟩, q⟩
      · rw [if_neg d]
        refine ⟨?_, ⟨.str (mulS s n.toNat), H, I.tok _, ⟨z.toks, ?_⟩, q⟩⟩
        · have : ((List.replicate n.toNat s.cps).foldl (· ++ ·) #[]).size ≤ sizeLine := by
            rw [← Array.length_toList, fold_app, List.length_append, List.length_flatten, List.map_replicate, List.sum_replicate_nat, sizeLine_eq, Array.length_toList]
            show 0 + n.toNat * s.cps.size ≤ _
            have : n.toNat * s.cps.size = s.length * n.toNat := Nat.mul_comm ..
            omega
          exact this
        · refine congrArg (fun q => Value.str q _) (str_ext ?_)
          show ((List.replicate n.toNat s.cps).foldl (· ++ ·) #[]).toList = (List.replicate n.toNat s.cps.toList).flatten
          rw [fold_app]
          rfl
theorem r_mulS {s : Str} {n : Int} {H : Hp} {Q : V → Hp → Prop} (n0 : -1000000 ≤ n) (n1 : n ≤ 1000000) (hl : s.length * n.toNat ≤ 1000000) (q : Q (.str (mulS s n.toNat)) H) : rMulS (.str s) (.int n) H Q := ⟨s, n, rfl, rfl, n0, n1, hl, q⟩
theorem mulS_one {s : Str} {c : Nat} (h : s = SX.S [c]) (n : Nat) : (mulS s n).cps.toList = List.replicate n c := by
  subst h
  show (List.replicate n [c]).flatten = _
  induction n with
  | zero => rfl
  | succ n ih => rw [List.replicate_succ, List.flatten_cons, ih]; rfl
/-- for sign in text -/
theorem r_forS {z : Str} {g : TG} {tb : TS} {D : Ends} {σ : L2.St} {H : Hp} (Pv : Nat → L2.St → Hp → Prop) (h0 : Pv 0 σ H)
    (hs : ∀ (i c : Nat) (σ : L2.St) (H : Hp), z.cps.toList[i]? = some c → Pv i σ H → g (.str (SX.S [c])) σ H fun σ2 H2 => tb { D with nx := Pv (i + 1), ct := Pv (i + 1), bk := D.nx } σ2 H2) (hd : ∀ σ H, Pv z.length σ H → D.nx σ H) : kFor g tb D σ (Its z) H :=
  for_it walk_str Pv h0 (fun _ _ _ _ _ => trivial) (fun i x σ H H' _ p ⟨e, c, hc, hx⟩ => by subst e; subst hx; exact hs i c σ _ (by simpa using hc) p) hd

end
/-! ### slices of texts -/
theorem cutS_to {z : Str} {hi : Int} (h : 0 ≤ hi) : cutS z none (some hi) = SX.S (z.cps.toList.take hi.toNat) := by
  unfold cutS
  rw [sIx_nn h, HT.sIx_none, List.drop_zero, Nat.sub_zero]
  refine str_ext ?_
  show List.take _ _ = List.take _ _
  have := len_tl z
  by_cases c : hi.toNat ≤ z.length
  · rw [Nat.min_eq_left c]
  · rw [Nat.min_eq_right (by omega), List.take_of_length_le (by omega), List.take_of_length_le (by omega)]
theorem cutS_from {z : Str} {lo : Int} (h : 0 ≤ lo) : cutS z (some lo) none = SX.S (z.cps.toList.drop lo.toNat) := by
  unfold cutS
  rw [sIx_nn h, HT.sIx_none]
  refine str_ext ?_
  show List.take _ (List.drop _ _) = List.drop _ _
  have := len_tl z
  by_cases c : lo.toNat ≤ z.length
  · rw [Nat.min_eq_left c]
    exact List.take_of_length_le (by rw [List.length_drop]; omega)
  · rw [Nat.min_eq_right (by omega), List.drop_of_length_le (by omega), List.drop_of_length_le (by omega), List.take_nil]
theorem r_slSt {z : Str} {hi : Int} {H : Hp} {Q : V → Hp → Prop} (h0 : 0 ≤ hi) (hl : z.length ≤ 1000000) (q : Q (.str (SX.S (z.cps.toList.take hi.toNat))) H) : rSlS (.str z) none (some hi) H Q := r_slS hl (by rw [cutS_to h0]; exact q)
theorem r_slSf {z : Str} {lo : Int} {H : Hp} {Q : V → Hp → Prop} (h0 : 0 ≤ lo) (hl : z.length ≤ 1000000) (q : Q (.str (SX.S (z.cps.toList.drop lo.toNat))) H) : rSlS (.str z) (some lo) none H Q := r_slS hl (by rw [cutS_from h0]; exact q)
local macro_rules | `(tactic| walk_at "rd1") => `(tactic| with_reducible (first | (refine' Sg.r_slSt ?h0 ?hl ?_; (case h0 => omega); (case hl => (with_unfolding_all first | omega | decide))) | (refine' Sg.r_slSf ?h0 ?hl ?_; (case h0 => omega); (case hl => (with_unfolding_all first | omega | decide)))))

def sp_is_code : Sp := fun vs H Q _ => ∃ i : Int, vs = [.int i] ∧ Q (.bl (goodI i)) H
theorem ok_is_code (T : Txt K mg) : FnOk P w K mg base CX0 1 T.a_is_code T.fd_is_code ["number"] sp_is_code := by
  refine T.F_is_code.ok sc_is_code (fun vs H Q E h => ?_) (fun cdv A outer s H vs Q E hr h => ?_)
  · obtain ⟨i, rfl, _⟩ := h
    rfl
  · refine ⟨_, (pss_one (ps_ret (pe_and (pe_chain op_le op_le (pe_glob rfl T.c_FIRST_CODE T.r_FIRST_CODE) (pv 0) (pe_glob rfl T.c_LAST_CODE T.r_LAST_CODE)) (pe_one (pe_cmpR op_ne (pv 0) (pe_glob rfl T.c_PERCENT T.r_PERCENT) (nomark _)))))), ?_⟩
    try dsimp only [cxOf, Cx.nox, Cx.wish]
    obtain ⟨i, rfl, q⟩ := h
    walk_at "rd"
    refine r_ite (fun c1 => ?_) (fun c1 => ?_)
    · walk_at "rd"
      refine r_ite (fun c2 => ?_) (fun c2 => ?_)
      · walk_at "rd"
        rw [goodI, decide_eq_true c1, decide_eq_true c2] at q
        exact q
      · rw [goodI_false (by omega)] at q
        exact q
    · walk_at "rd"
      rw [goodI_false (by omega)] at q
      exact q
def sp_is_text : Sp := fun vs H Q _ => ∃ z : Str, vs = [.str z] ∧ z.length ≤ 100000 ∧ ∀ H', Same H H' → Q (.bl (z.cps.toList.all goodN)) H'
theorem ok_is_text (T : Txt K mg) : FnOk P w K mg base CX0 2 T.a_is_text T.fd_is_text ["text"] sp_is_text := by
  refine T.F_is_text.ok sc_is_text (fun vs H Q E h => ?_) (fun cdv A outer s H vs Q E hr h => ?_)
  · obtain ⟨z, rfl, _⟩ := h
    rfl
  · refine ⟨_, (pss_one (ps_ret (pe_callB (cr_all rfl) (by rfl) T.n_all (by decide +kernel) (pa_cons (pe_lc (own := [("sign", 1)]) (g := gName 1) (tt := tYes) rfl sc_is_text.nd (pi_str (pv 0)) (blkOk_by (own := [("sign", 1)]) (N := n_is_text) (sc := defScope s_is_text) (by decide +kernel)) (fun _ _ _ _ _ => pg_name (i := 1) sc_is_text.nd rfl (Or.inl rfl)) (fun _ _ _ _ _ => pts_nil) (fun _ _ _ _ _ => (pe_call (ok_is_code T) (hr.mono (by decide)) rfl T.m_is_code T.F_is_code.kp T.b_is_code .nil pass0 (pa_cons (pe_callB (call_ord) (by rfl) T.n_ord (by decide +kernel) (pa_cons (pv 1) pa_nil)) pa_nil)))) pa_nil)))), ?_⟩
    try dsimp only [cxOf, Cx.nox, Cx.wish]
    obtain ⟨z, rfl, hl, q⟩ := h
    walk_at "rd"
    refine r_lcS (fun c => .bl (goodN c)) hl rfl ?_ ?_
    · intro i c H' hc s R hR
      walk_at "rd"
      refine ⟨_, rfl, rfl, ?_⟩
      walk_at "rd"
      refine ⟨(c : Int), rfl, ?_⟩
      rw [goodI_nat]
      exact hR _ (L2.Same.refl _)
    · intro H' l s nl hl
      walk_at "rd"
      refine ⟨l, z.cps.toList.map goodN, rfl, ?_, ?_⟩
      · rw [List.map_map]
        exact .of hl
      · rw [List.all_map]
        exact q H' s
theorem i_is_text  {args_ : List V} {H : Hp} {Q : V → Hp → Prop} {E : XK} {z : Str} (ev : args_ = [.str z]) (hl : z.length ≤ 100000) (q : ∀ (H' : Hp), Same H H' → Q (.bl (z.cps.toList.all goodN)) H') : sp_is_text  args_ H Q E := ⟨z, ev, hl, q⟩
local macro_rules | `(tactic| walk_at "ca1") => `(tactic| with_reducible (refine' Sg.i_is_text ?ev ?hl ?_; (case ev => (with_unfolding_all rfl)); (case hl => (with_unfolding_all walk_at "pr")); intros))


/-! ### paths: the mathematics -/
/-- the parts between slashes that are not empty -/
def prt : List Nat → List Nat → List (List Nat)
  | acc, [] => if acc = [] then [] else [acc]
  | acc, c :: r => if c = 47 then (if acc = [] then prt [] r else acc :: prt [] r) else prt (acc ++ [c]) r
theorem pre47 (c : Nat) (r : List Nat) : TL.pre [47] (c :: r) = true ↔ c = 47 := by
  unfold TL.pre
  simp
theorem spl_prt : ∀ (l acc : List Nat), (TL.spl [47] 0 acc l).filter (fun p => !p.isEmpty) = prt acc l
  | [], acc => by
    rw [TL.spl_nil, prt]
    cases acc <;> rfl
  | c :: r, acc => by
    rw [prt]
    by_cases h : c = 47
    · rw [if_pos h, TL.spl_hit ((pre47 c r).mpr h), List.filter_cons]
      rw [show TL.spl [47] ([47].length - 1) [] r = TL.spl [47] 0 [] r from rfl, spl_prt r []]
      cases acc <;> simp
    · rw [if_neg h]
      show (if TL.pre [47] (c :: r) = true then _ else _ : List (List Nat)).filter _ = _
      rw [if_neg (fun z => h ((pre47 c r).mp z)), spl_prt r (acc ++ [c])]
/-- the same, where every part ends with a slash -/
def prt0 : List Nat → List Nat → List (List Nat)
  | _, [] => []
  | acc, c :: r => if c = 47 then (if acc = [] then prt0 [] r else acc :: prt0 [] r) else prt0 (acc ++ [c]) r
theorem prt0_end : ∀ (l acc : List Nat), prt0 acc (l ++ [47]) = prt acc l
  | [], acc => by
    show (if (47 : Nat) = 47 then _ else _) = _
    rw [if_pos rfl]
    rfl
  | c :: r, acc => by
    rw [List.cons_append, prt0, prt, prt0_end r [], prt0_end r (acc ++ [c])]
theorem spl_len : ∀ (l : List Nat) (s : Nat) (acc : List Nat), (TL.spl [47] s acc l).length ≤ l.length + 1
  | [], s, acc => by rw [TL.spl_nil]; simp
  | c :: r, 0, acc => by
    by_cases h : TL.pre [47] (c :: r) = true
    · rw [TL.spl_hit h]
      exact Nat.succ_le_succ (spl_len r _ [])
    · show ((if TL.pre [47] (c :: r) = true then _ else _ : List (List Nat))).length ≤ _
      rw [if_neg h, List.length_cons]
      have := spl_len r 0 (acc ++ [c])
      omega
  | c :: r, s + 1, acc => by
    rw [List.length_cons]
    have := spl_len r s acc
    show (TL.spl [47] s acc r).length ≤ _
    omega
def vS (p : List Nat) : V := .str (SX.S p)
def nms (l : List Nat) : List V := (prt [] l).map vS
theorem prt_len (l : List Nat) : (prt [] l).length ≤ l.length + 1 := by
  rw [← spl_prt l []]
  exact Nat.le_trans (List.length_filter_le _ _) (spl_len l 0 [])
theorem prt_mem : ∀ (l acc : List Nat), ∀ x ∈ prt acc l, x.length ≤ acc.length + l.length
  | [], acc, x, h => by
    rw [prt] at h
    split at h
    · cases h
    · rw [List.mem_singleton.mp h]
      omega
  | c :: r, acc, x, h => by
    rw [prt] at h
    split at h
    · split at h
      · have := prt_mem r [] x h
        rw [List.length_nil] at this
        rw [List.length_cons]
        omega
      · rcases List.mem_cons.mp h with rfl | h
        · omega
        · have := prt_mem r [] x h
          rw [List.length_nil] at this
          rw [List.length_cons]
          omega
    · have := prt_mem r (acc ++ [c]) x h
      rw [List.length_append, List.length_singleton] at this
      rw [List.length_cons]
      omega
def badN (c : Nat) : Bool := decide (c < 32) || decide (126 < c)
def clo (l : List Nat) : Bool := decide (0 < (prt [] l).length) && decide (l.getLast? = some 47)
/-- what is to be told of a text: 0: its parts, 1: it is too long, 2: it is no path -/
def dueF (l : List Nat) (t : Bool) : Nat :=
  if 200 < l.length then 1 else if l.all goodN = false ∨ (t = true ∧ l = []) ∨ (t = false ∧ l.head? ≠ some 47) then 2
  else if t = false ∧ (16 < (prt [] l).length ∨ (prt [] l).any (fun p => decide (28 < p.length)) = true) then 1 else 0
def dueT : Nat → Str
  | 0 => ""
  | 1 => "long"
  | _ => "invalid"
theorem good_bad : ∀ {l : List Nat}, 37 ∉ l → l.any badN = !l.all goodN
  | [], _ => rfl
  | c :: r, h => by
    rw [List.mem_cons, not_or] at h
    have ih := good_bad h.2
    rw [List.any_cons, List.all_cons, Bool.not_and, ih]
    congr 1
    have := h.1
    unfold badN goodN
    by_cases h1 : c < 32
    · simp [h1]
      try omega
    · by_cases h2 : 126 < c
      · simp [h1, h2]
        try omega
      · simp [h1, h2]
        try omega
theorem starts47 (z : Str) : Txt.startswith z "/" = decide (z.cps.toList.head? = some 47) := by
  unfold Txt.startswith
  rw [PySem.StrLaws.subAt_eq]
  have e : ("/" : Str).cps.toList = [47] := by decide +kernel
  have e2 : ("/" : Str).length = 1 := by decide +kernel
  rw [e, e2, ← len_tl]
  cases z.cps.toList with
  | nil => rfl
  | cons c r =>
    rw [List.drop_zero, List.take_succ_cons, List.take_zero, List.head?_cons]
    by_cases h : c = 47
    · subst h
      simp
    · simp [h]
theorem ends47 (z : Str) : Txt.endswith z "/" = decide (z.cps.toList.getLast? = some 47) := by
  unfold Txt.endswith
  rw [PySem.StrLaws.subAt_eq]
  have e : ("/" : Str).cps.toList = [47] := by decide +kernel
  have e2 : ("/" : Str).length = 1 := by decide +kernel
  rw [e, e2, ← len_tl]
  generalize z.cps.toList = l
  rcases List.eq_nil_or_concat l with rfl | ⟨l', c, rfl⟩
  · rfl
  · rw [List.concat_eq_append, List.length_append, List.length_singleton, Nat.add_sub_cancel, List.drop_left, List.getLast?_append]
    by_cases h : c = 47
    · subst h
      simp
    · simp [h]

/-! ### paths are read -/
/-- [x for x in xs if b x], the items anything -/
theorem r_lcFG {α : Type} {K : PySem.W.Frag} {a : Addr} {xs : List α} {slot : Nat} {vs : List Nat} {tt : TT} {σ : L2.St} {H : Hp} {Q : V → Hp → Prop} (g : α → V) (b : α → Bool) (hx : SqL K H a (xs.map g)) (hn : xs.length ≤ 100000) (hv : vs = [slot]) (hsl : slot < σ.length)
    (ht : ∀ (z : α) (H' : Hp), z ∈ xs → L2.Same H H' → ∀ R : Bool → Hp → Prop, R (b z) H' → tt ((wipe σ vs).set slot (some (g z))) H' R)
    (q : ∀ (H' : Hp) (l : Addr), L2.Same H H' → H l = none → H' l = some (.lst ((xs.filter b).map g)) → Q (.ref l) H') :
    kLc (gName slot) tt (tVar slot) vs σ Q (Itl K a) H := by
  intro L hL
  have hw : ∀ (τ : L2.St) (x : V), wipe (τ.set slot (some x)) [slot] = wipe τ [slot] := fun τ x => by simp [wipe, List.set_set]
  have hw2 : wipe (wipe σ vs) vs = wipe σ vs := by subst hv; simp [wipe, List.set_set]
  have hwl : (wipe σ vs).length = σ.length := by subst hv; simp [wipe]
  refine lc_list (xs := xs.map g) (fun i H' => H' L = some (.lst (((xs.take i).filter b).map g)) ∧ L2.Same H H') ⟨upd_same, fun b o e => by rw [upd_ne (ne_of_none e hL)]; exact e⟩ ?_ ?_ ?_
  · rintro i H' hi ⟨_, s⟩
    exact s.seq hx
  · rintro i x H' hi ⟨eL, s⟩
    rw [List.getElem?_map] at hi
    obtain ⟨z, hz, rfl⟩ := Option.map_eq_some_iff.mp hi
    have hil := (List.getElem?_eq_some_iff.mp hz).1
    refine ⟨?_, ?_⟩
    · subst hv
      rw [hw]
      exact hw2
    · show tt ((wipe σ vs).set slot (some (g z))) H' _
      refine ht z H' (List.mem_of_getElem? hz) s _ ?_
      refine to_ite (fun hb => ?_) (fun hb => ?_)
      · refine r_var (v := g z) (by rw [List.getElem?_set_self (by rw [hwl]; exact hsl)]) ?_
        refine ⟨_, eL, ?_, ?_, fun b o e => by rw [upd_ne (ne_of_none e hL)]; exact s _ _ e⟩
        · rw [List.length_map, sz]
          have := List.length_filter_le b (xs.take i)
          rw [List.length_take] at this
          omega
        · rw [upd_same, List.take_add_one, hz, List.filter_append]
          show some (HO.lst (_ ++ _)) = some (HO.lst (List.map g (_ ++ List.filter b [z])))
          rw [List.filter_cons, if_pos hb, List.filter_nil, List.map_append]
          rfl
      · refine ⟨?_, s⟩
        rw [List.take_add_one, hz, List.filter_append]
        show _ = some (HO.lst (List.map g (_ ++ List.filter b [z])))
        rw [List.filter_cons, if_neg (by rw [hb]; decide), List.filter_nil, List.append_nil]
        exact eL
  · rintro H' ⟨eL, s⟩
    rw [List.length_map, List.take_length] at eL
    exact q H' L s hL eL
/-- [e for x in xs], the items anything, e by the item -/
theorem r_lcMG {α : Type} {K : PySem.W.Frag} {a : Addr} {xs : List α} {slot : Nat} {vs : List Nat} {te : TE} {σ : L2.St} {H : Hp} {Q : V → Hp → Prop} (g f : α → V) (hx : SqL K H a (xs.map g)) (hmax : xs.length ≤ 100000) (hv : vs = [slot])
    (hs : ∀ (c : α) (H' : Hp), c ∈ xs → L2.Same H H' → ∀ R : V → Hp → Prop, R (f c) H' → te ((wipe σ vs).set slot (some (g c))) H' R)
    (q : ∀ (H' : Hp) (l : Addr), L2.Same H H' → H l = none → H' l = some (.lst (xs.map f)) → Q (.ref l) H') : kLc (gName slot) tYes te vs σ Q (Itl K a) H :=
  r_lcF (walk_list (K := K) (a := a) (xs := xs.map g)) xs (by rw [List.length_map]) (by rw [List.length_map]; exact hmax) g f (fun i H x H' ⟨e, hx⟩ => by
    rw [List.getElem?_map] at hx
    obtain ⟨y, hy, rfl⟩ := Option.map_eq_some_iff.mp hx
    exact ⟨e, y, hy, rfl⟩) (fun H' s => s.seq hx) hv (fun i u H' hu s R hR => hs u H' (List.mem_of_getElem? hu) s R (hR H' (L2.Same.refl _))) q
theorem S_empty (x : List Nat) : decide (SX.S x = Str.ofString "") = x.isEmpty := by
  cases x with
  | nil => decide +kernel
  | cons c r =>
    refine decide_eq_false fun h => ?_
    have := congrArg (fun z : Str => z.cps.toList) h
    cases this
def sp_names_in  : Sp := fun args_ H Q _ => ∃ (z : Str), args_ = [.str z] ∧ z.length ≤ 2000 ∧ ∀ (H' : Hp) (l : Addr), Same H H' → H l = none → H' l = some (.lst (nms z.cps.toList)) → Q (.ref l) H'
theorem i_names_in  {args_ : List V} {H : Hp} {Q : V → Hp → Prop} {E : XK} {z : Str} (ev : args_ = [.str z]) (hl : z.length ≤ 2000) (q : ∀ (H' : Hp) (l : Addr), Same H H' → H l = none → H' l = some (.lst (nms z.cps.toList)) → Q (.ref l) H') : sp_names_in  args_ H Q E := ⟨z, ev, hl, q⟩
local macro_rules | `(tactic| walk_at "ca1") => `(tactic| with_reducible (refine' Sg.i_names_in ?ev ?hl ?_; (case ev => (with_unfolding_all rfl)); (case hl => (with_unfolding_all walk_at "pr")); intros))

theorem ok_names_in (T : Txt K mg) : FnOk P w K mg base CX0 1 T.a_names_in T.fd_names_in ["text"] sp_names_in := by
  refine T.F_names_in.ok sc_names_in (fun vs H Q E h => ?_) (fun cdv A outer s H vs Q E hr h => ?_)
  · obtain ⟨z, rfl, _⟩ := h
    rfl
  · refine ⟨_, (pss_one (ps_ret (pe_lc (own := [("part", 1)]) (g := gName 1)  rfl sc_names_in.nd (pi_list (pe_bm PySem.F.plainAttrs_str PySem.F.slot_str_split PySem.F.type_str_split mt_split (pv 0) (pa_cons pe_str pa_nil))) (blkOk_by (own := [("part", 1)]) (N := n_names_in) (sc := defScope s_names_in) (by decide +kernel)) (fun _ _ _ _ _ => pg_name (i := 1) sc_names_in.nd rfl (Or.inl rfl)) (fun _ _ _ _ _ => pts_one (pt_cmpR op_ne (pv 1) pe_str (nomark _))) (fun _ _ _ _ _ => (pv 1))))), ?_⟩
    try dsimp only [cxOf, Cx.nox, Cx.wish]
    obtain ⟨z, rfl, hl, q⟩ := h
    walk_at "go"
    refine ⟨rfl, ?_⟩
    walk_at "go"
    refine ⟨z, _, rfl, rfl, by decide +kernel, by rw [sz]; omega, ?_⟩
    have es : Txt.split z "/" = (TL.spl [47] 0 [] z.cps.toList).map SX.S := by
      have e := SX.split_S (a := z.cps.toList) (b := [47]) (by decide) (by decide)
      exact e
    have hlen := spl_len z.cps.toList 0 []
    rw [len_tl] at hlen
    rw [es]
    intro p np
    revert p np
    walk_at "al"
    rename_i p np H1 s1 g1
    rw [List.map_map] at g1
    walk_at "go"
    refine r_lcFG (xs := TL.spl [47] 0 [] z.cps.toList) vS (fun p => !p.isEmpty) (.of g1) (by omega) rfl (show (1 : Nat) < 2 by decide) ?_ ?_
    · intro x H' hx s R hR
      unfold vS
      walk_at "go"
      rw [show decide (SX.S x = Str.ofString "") = x.isEmpty from S_empty x]
      exact hR
    · intro H' l s n g
      rw [spl_prt] at g
      walk_at "go"
      exact q _ _ (s1.trans s) (s1.free n) g
def PathL (C : Addr) (H : Hp) (p l : Addr) (xs : List V) (b : Bool) : Prop := ∃ dx fs, H p = some (.ins C dx fs) ∧ fs.lookup ("parts" : Str) = some (.ref l) ∧ fs.lookup ("closed" : Str) = some (.bl b) ∧ H l = some (.lst xs)
def PathAt (C : Addr) (H : Hp) (p : Addr) (xs : List V) (b : Bool) : Prop := ∃ l, PathL C H p l xs b
theorem PathL.mono {C : Addr} {H H' : Hp} {p l : Addr} {xs : List V} {b : Bool} (s : Same H H') (h : PathL C H p l xs b) : PathL C H' p l xs b := by
  obtain ⟨dx, fs, h1, h2, h3, h4⟩ := h
  exact ⟨dx, fs, s _ _ h1, h2, h3, s _ _ h4⟩
def sp_Path___init (K : PySem.W.Frag) (C : Addr) : Sp := fun args_ H Q _ => ∃ (H0 : Hp) (p dx a : Addr) (xs : List V) (b : Bool), args_ = [.ref p, .ref a, .bl b] ∧ H p = some (.ins C dx []) ∧ Same H0 H ∧ H0 p = none ∧ SqL K H a xs ∧ ∀ (H' : Hp) (l : Addr), Same H0 H' → H0 l = none → PathL C H' p l xs b → Q .non H'
theorem i_Path___init {K : PySem.W.Frag} {C : Addr} {args_ : List V} {H : Hp} {Q : V → Hp → Prop} {E : XK} {H0 : Hp} {p dx a : Addr} {xs : List V} {b : Bool} (ev : args_ = [.ref p, .ref a, .bl b]) (hp : H p = some (.ins C dx [])) (h0 : Same H0 H) (n0 : H0 p = none) (ha : SqL K H a xs) (q : ∀ (H' : Hp) (l : Addr), Same H0 H' → H0 l = none → PathL C H' p l xs b → Q .non H') : sp_Path___init K C args_ H Q E := ⟨H0, p, dx, a, xs, b, ev, hp, h0, n0, ha, q⟩
local macro_rules | `(tactic| walk_at "ca1") => `(tactic| with_reducible (refine' Sg.i_Path___init ?ev ?hp ?h0 ?n0 ?ha ?_; (case ev => (with_unfolding_all rfl)); (case hp => (with_unfolding_all walk_at "pr")); (case h0 => (with_unfolding_all walk_at "pr")); (case n0 => (with_unfolding_all walk_at "pr")); (case ha => (with_unfolding_all walk_at "pr")); intros))

theorem ok_Path___init (T : Txt K mg) : FnOk P w K mg base CX0 1 T.a_Path___init T.fd_Path___init ["self", "parts", "closed"] (sp_Path___init K T.A_Path) := by
  refine T.F_Path___init.ok sc_Path___init (fun vs H Q E h => ?_) (fun cdv A outer s H vs Q E hr h => ?_)
  · obtain ⟨H0, p, dx, a, xs, b, rfl, _⟩ := h
    rfl
  · refine ⟨_, (pss_cons (ps_fld (pv 0) (pe_callTy c_list (by rfl) T.n_list (by decide +kernel) (pa_cons (pv 1) pa_nil)) rfl)
       (pss_one (ps_fld (pv 0) (pv 2) rfl))), ?_⟩
    try dsimp only [cxOf, Cx.nox, Cx.wish]
    obtain ⟨H0, p, dx, a, xs, b, rfl, hp, h0, n0, ha, q⟩ := h
    have cl_Path := T.cl_Path
    have na_Path_closed := T.na_Path_closed
    have na_Path_parts := T.na_Path_parts
    have cl := T.cl_Path
    walk_at "go"
    rename_i l nl H1 s1 g1 H2 e2 g2 H3 e3 g3
    have S1 : Same H0 H1 := h0.trans s1
    have S3 : Same H0 H3 := Sg.Same.old (Sg.Same.old S1 n0 e2) n0 e3
    have k1 : H1 p = some (.ins T.A_Path dx []) := s1 _ _ hp
    refine q _ l S3 (h0.free nl) ⟨dx, _, g3, by walk_at "lk", by walk_at "lk", ?_⟩
    exact at_keep e3 (at_keep e2 g1 k1 (by intro z; cases z)) g2 (by intro z; cases z)
theorem made_sameP {H : Hp} {x dx : Addr} {o o' : HO} (nx : H x = none) (nd : H dx = none) : Same H (upd (upd H dx o) x o') := fun b u e => by
  rw [upd_ne (ne_of_none e nx), upd_ne (ne_of_none e nd)]
  exact e
theorem i_pathnew {K : PySem.W.Frag} {C : Addr} {H : Hp} {Q : Addr → Hp → Prop} {E : XK} {vs dvs : List V} {a : Addr} {xs : List V} {b : Bool} (ev : vs ++ dvs = [.ref a, .bl b]) (ha : SqL K H a xs) (q : ∀ (p : Addr) (H' : Hp) (l : Addr), Same H H' → H p = none → H l = none → PathL C H' p l xs b → Q p H') :
    ∀ x dx, H x = none → H dx = none → dx ≠ x → sp_Path___init K C (.ref x :: (vs ++ dvs)) (upd (upd H dx (.own x)) x (.ins C dx [])) (fun v H2 => v = .non ∧ Q x H2) E := fun x dx nx nd _ => by
  rw [ev]
  exact ⟨H, x, dx, a, xs, b, rfl, upd_same, made_sameP nx nd, nx, (made_sameP nx nd).seq ha, fun H' l s nl h => ⟨rfl, q x H' l s nx nl h⟩⟩
local macro_rules | `(tactic| walk_at "ca1") => `(tactic| with_reducible (refine' Sg.i_pathnew ?ev ?ha ?_; (case ev => (with_unfolding_all rfl)); (case ha => (with_unfolding_all walk_at "pr")); intros))
theorem clo_eq (l : List Nat) : clo l = (decide (0 < (prt [] l).length) && decide (l.getLast? = some 47)) := rfl
def sp_read_path (C AN AI : Addr) : Sp := fun args_ H Q E => ∃ (z : Str), args_ = [.str z] ∧ z.length ≤ 2000 ∧ ((dueF z.cps.toList false = 0 → ∀ (H' : Hp) (p : Addr), Same H H' → H p = none → PathAt C H' p (nms z.cps.toList) (clo z.cps.toList) → Q (.ref p) H')) ∧ ((dueF z.cps.toList false = 1 → ∀ (H' : Hp), Same H H' → E (.ref AN) none H')) ∧ (dueF z.cps.toList false = 2 → ∀ (H' : Hp), Same H H' → E (.ref AI) none H')
theorem i_read_path {C AN AI : Addr} {args_ : List V} {H : Hp} {Q : V → Hp → Prop} {E : XK} {z : Str} (ev : args_ = [.str z]) (hl : z.length ≤ 2000) (q0 : (dueF z.cps.toList false = 0 → ∀ (H' : Hp) (p : Addr), Same H H' → H p = none → PathAt C H' p (nms z.cps.toList) (clo z.cps.toList) → Q (.ref p) H')) (q1 : (dueF z.cps.toList false = 1 → ∀ (H' : Hp), Same H H' → E (.ref AN) none H')) (q2 : (dueF z.cps.toList false = 2 → ∀ (H' : Hp), Same H H' → E (.ref AI) none H')) : sp_read_path C AN AI args_ H Q E := ⟨z, ev, hl, q0, q1, q2⟩
local macro_rules | `(tactic| walk_at "ca1") => `(tactic| with_reducible (refine' Sg.i_read_path ?ev ?hl ?q0 ?q1 ?q2; (case ev => (with_unfolding_all rfl)); (case hl => (with_unfolding_all walk_at "pr"))))

theorem ok_read_path (T : Txt K mg) : FnOk P w K mg base (L2.CX P w) 3 T.a_read_path T.fd_read_path ["text"] (sp_read_path T.A_Path T.A_NameTooLong T.A_InvalidPath) := by
  refine T.F_read_path.okX sc_read_path (fun vs H Q E h => ?_) (fun cdv A outer s H vs Q E hr h => ?_)
  · obtain ⟨z, rfl, _⟩ := h
    rfl
  · refine ⟨_, (pss_cons (ps_if (pt_cmpR op_gt (pe_callB (c_lenS) (by rfl) T.n_len (by decide +kernel) (pa_cons (pv 0) pa_nil)) (pe_glob rfl T.c_MOST_PATH T.r_MOST_PATH) (nomark _))
       (pss_one (ps_rzF rfl (takes_of rfl rfl rfl rfl) PySem.F.excBase_ValueError T.x_NameTooLong T.m_NameTooLong T.k_NameTooLong (raises_own T.b_NameTooLong T.t_NameTooLong) (by rfl) (pe_joined (.cons pe_str (.cons (pe_fmt (pe_glob rfl T.c_MOST_PATH T.r_MOST_PATH)) (.cons pe_str .nil))))))
       pss_nil)
       (C8.pss_cut (ps_if (PW.pt (pw_or (pt_not (pt_val (pe_bm PySem.F.plainAttrs_str PySem.F.slot_str_startswith PySem.F.type_str_startswith mt_startswith (pv 0) (pa_cons pe_str pa_nil)))) (pw_or1 (pt_not (pt_val (pe_call (ok_is_text T) (hr.mono (by decide)) rfl T.m_is_text T.F_is_text.kp T.b_is_text .nil pass0 (pa_cons (pv 0) pa_nil)))))))
       (pss_one (ps_rz rfl (takes_of rfl rfl rfl rfl) PySem.F.excBase_ValueError T.x_InvalidPath T.m_InvalidPath T.k_InvalidPath (raises_own T.b_InvalidPath T.t_InvalidPath) (by rfl)))
       pss_nil)
       (pss_cons (ps_set (i := 1) sc_read_path.nd rfl (Or.inl rfl) (pe_call (ok_names_in T) (hr.mono (by decide)) rfl T.m_names_in T.F_names_in.kp T.b_names_in .nil pass0 (pa_cons (pv 0) pa_nil)))
       (C8.pss_cut (ps_if (PW.pt (pw_or (pt_cmpR op_gt (pe_callB (c_len) (by rfl) T.n_len (by decide +kernel) (pa_cons (pv 1) pa_nil)) (pe_glob rfl T.c_MOST_NAMES T.r_MOST_NAMES) (nomark _)) (pw_or1 (pt_val (pe_callB (cr_any rfl) (by rfl) T.n_any (by decide +kernel) (pa_cons (pe_lc (own := [("part", 2)]) (g := gName 2) (tt := tYes) rfl sc_read_path.nd (pi_list (pv 1)) (blkOk_by (own := [("part", 2)]) (N := n_read_path) (sc := defScope s_read_path) (by decide +kernel)) (fun _ _ _ _ _ => pg_name (i := 2) sc_read_path.nd rfl (Or.inl rfl)) (fun _ _ _ _ _ => pts_nil) (fun _ _ _ _ _ => (pe_cmpR op_gt (pe_callB (c_lenS) (by rfl) T.n_len (by decide +kernel) (pa_cons (pv 2) pa_nil)) (pe_glob rfl T.c_MOST_NAME T.r_MOST_NAME) (nomark _)))) pa_nil))))))
       (pss_one (ps_rzF rfl (takes_of rfl rfl rfl rfl) PySem.F.excBase_ValueError T.x_NameTooLong T.m_NameTooLong T.k_NameTooLong (raises_own T.b_NameTooLong T.t_NameTooLong) (by rfl) (pe_joined (.cons pe_str (.cons (pe_fmt (pe_glob rfl T.c_MOST_NAMES T.r_MOST_NAMES)) (.cons pe_str (.cons (pe_fmt (pe_glob rfl T.c_MOST_NAME T.r_MOST_NAME)) (.cons pe_str .nil))))))))
       pss_nil)
       (pss_one (ps_ret (pe_make T.M_Path (ok_Path___init T) (hr.mono (by decide)) rfl T.m_Path T.b_Path___init .nil pass0 (pa_cons (pv 1) (pa_cons (pe_and (pe_cmpR op_gt (pe_callB (c_len) (by rfl) T.n_len (by decide +kernel) (pa_cons (pv 1) pa_nil)) pe_int (nomark _)) (pe_one (pe_bm PySem.F.plainAttrs_str PySem.F.slot_str_endswith PySem.F.type_str_endswith mt_endswith (pv 0) (pa_cons pe_str pa_nil)))) pa_nil))))))))), ?_⟩
    try dsimp only [cxOf, Cx.nox, Cx.wish]
    obtain ⟨z, rfl, hl, q0, q1, q2⟩ := h
    have cl_Path := T.cl_Path
    have hlz := len_tl z
    walk_at "go"
    refine to_ite (fun h1 => ?_) (fun h1 => ?_)
    · have h1' := of_decide_eq_true h1
      walk_at "go"
      exact q1 (by unfold dueF; rw [if_pos (by omega)]) _ (Same.refl _)
    have h1' := of_decide_eq_false h1
    have d1 : ∀ t, dueF z.cps.toList t = (if z.cps.toList.all goodN = false ∨ (t = true ∧ z.cps.toList = []) ∨ (t = false ∧ z.cps.toList.head? ≠ some 47) then 2
  else if t = false ∧ (16 < (prt [] z.cps.toList).length ∨ (prt [] z.cps.toList).any (fun p => decide (28 < p.length)) = true) then 1 else 0) := fun t => by
      unfold dueF
      rw [if_neg (by omega)]
    walk_at "go"
    refine r_cut (fun σ' H' => σ' = [some (.str z), none, none] ∧ Same H H' ∧ z.cps.toList.head? = some 47 ∧ z.cps.toList.all goodN = true) ?_ ?_
    · walk_at "go"
      refine ⟨rfl, ?_⟩
      walk_at "go"
      refine ⟨z, _, rfl, rfl, ?_⟩
      rw [starts47]
      walk_at "go"
      refine to_ite (fun h2 => ?_) (fun h2 => ?_)
      · have h2' : ¬ z.cps.toList.head? = some 47 := by simpa using h2
        walk_at "go"
        exact q2 (by rw [d1, if_pos (.inr (.inr ⟨rfl, h2'⟩))]) _ (Same.refl _)
      · have h2' : z.cps.toList.head? = some 47 := by simpa using h2
        walk_at "go"
        rename_i H1 s1
        refine to_ite (fun h3 => ?_) (fun h3 => ?_)
        · walk_at "go"
          exact q2 (by rw [d1, if_pos (.inl (by simpa using h3))]) _ s1
        · walk_at "go"
          exact ⟨rfl, s1, h2', by simpa using h3⟩
    rintro σ' H1 ⟨rfl, s1, h2, h3⟩
    have d2 : dueF z.cps.toList false = if 16 < (prt [] z.cps.toList).length ∨ (prt [] z.cps.toList).any (fun p => decide (28 < p.length)) = true then 1 else 0 := by
      rw [d1, if_neg (by rw [h3, h2]; simp)]
      simp
    have pl := prt_len z.cps.toList
    walk_at "go"
    rename_i H2 l s2 nl g2
    have S2 := s1.trans s2
    have nl0 := s1.free nl
    have nmL : (nms z.cps.toList).length = (prt [] z.cps.toList).length := List.length_map _
    refine r_cut (fun σ' H' => σ' = [some (.str z), some (.ref l), none] ∧ Same H2 H' ∧ dueF z.cps.toList false = 0) ?_ ?_
    · walk_at "go"
      refine to_ite (fun h4 => ?_) (fun h4 => ?_)
      · have h4' := of_decide_eq_true h4
        walk_at "go"
        exact q1 (by rw [d2, if_pos (.inl (by omega))]) _ S2
      have h4' := of_decide_eq_false h4
      walk_at "go"
      refine r_lcMG (xs := prt [] z.cps.toList) vS (fun p => .bl (decide (28 < (p.length : Int)))) (.of g2) (by omega) rfl ?_ ?_
      · intro x H' hx s R hR
        have hxl : (SX.S x).length = x.length := SX.S_len x
        have hx2 := prt_mem _ _ x hx
        rw [List.length_nil] at hx2
        unfold vS
        walk_at "go"
        rw [hxl]
        exact hR
      intro H3 l3 s3 n3 g3
      walk_at "go"
      refine ⟨l3, (prt [] z.cps.toList).map (fun p => decide (28 < (p.length : Int))), rfl, ?_, ?_⟩
      · rw [List.map_map]
        exact .of g3
      have e28 : ((prt [] z.cps.toList).map (fun p => decide (28 < (p.length : Int)))).any id = (prt [] z.cps.toList).any (fun p => decide (28 < p.length)) := by
        rw [List.any_map]
        congr 1
        funext p
        show decide (28 < (p.length : Int)) = decide (28 < p.length)
        congr 1
        exact propext ⟨fun h => by omega, fun h => by omega⟩
      rw [e28]
      walk_at "go"
      refine to_ite (fun h5 => ?_) (fun h5 => ?_)
      · walk_at "go"
        exact q1 (by rw [d2, if_pos (.inr h5)]) _ (S2.trans s3)
      · walk_at "go"
        exact ⟨rfl, s3, by rw [d2, if_neg (by rw [h5]; simp; omega)]⟩
    rintro σ' H3 ⟨rfl, s3, hd⟩
    have g3 := s3 _ _ g2
    have S3 := S2.trans s3
    walk_at "go"
    refine to_ite (fun h6 => ?_) (fun h6 => ?_)
    · walk_at "go"
      refine ⟨rfl, ?_⟩
      walk_at "go"
      refine ⟨z, _, rfl, rfl, ?_⟩
      rw [ends47]
      walk_at "go"
      rename_i p H4 l4 s4 np nl4 hP
      exact q0 hd _ _ (S3.trans s4) (S3.free np) (by unfold clo; rw [← nmL]; rw [show decide (0 < (nms z.cps.toList).length) = true from decide_eq_true (by have := of_decide_eq_true h6; omega), Bool.true_and]; exact ⟨l4, hP⟩)
    · walk_at "go"
      rename_i p H4 l4 s4 np nl4 hP
      exact q0 hd _ _ (S3.trans s4) (S3.free np) (by unfold clo; rw [← nmL]; rw [show decide (0 < (nms z.cps.toList).length) = false from decide_eq_false (by have := of_decide_eq_false h6; omega), Bool.false_and]; exact ⟨l4, hP⟩)
def sp_read_target (AN AI : Addr) : Sp := fun args_ H Q E => ∃ (z : Str), args_ = [.str z] ∧ z.length ≤ 2000 ∧ ((dueF z.cps.toList true = 0 → ∀ (H' : Hp) (l : Addr), Same H H' → H l = none → H' l = some (.lst (nms z.cps.toList)) → Q (.ref l) H')) ∧ ((dueF z.cps.toList true = 1 → ∀ (H' : Hp), Same H H' → E (.ref AN) none H')) ∧ (dueF z.cps.toList true = 2 → ∀ (H' : Hp), Same H H' → E (.ref AI) none H')
theorem i_read_target {AN AI : Addr} {args_ : List V} {H : Hp} {Q : V → Hp → Prop} {E : XK} {z : Str} (ev : args_ = [.str z]) (hl : z.length ≤ 2000) (q0 : (dueF z.cps.toList true = 0 → ∀ (H' : Hp) (l : Addr), Same H H' → H l = none → H' l = some (.lst (nms z.cps.toList)) → Q (.ref l) H')) (q1 : (dueF z.cps.toList true = 1 → ∀ (H' : Hp), Same H H' → E (.ref AN) none H')) (q2 : (dueF z.cps.toList true = 2 → ∀ (H' : Hp), Same H H' → E (.ref AI) none H')) : sp_read_target AN AI args_ H Q E := ⟨z, ev, hl, q0, q1, q2⟩
local macro_rules | `(tactic| walk_at "ca1") => `(tactic| with_reducible (refine' Sg.i_read_target ?ev ?hl ?q0 ?q1 ?q2; (case ev => (with_unfolding_all rfl)); (case hl => (with_unfolding_all walk_at "pr"))))

theorem ok_read_target (T : Txt K mg) : FnOk P w K mg base (L2.CX P w) 3 T.a_read_target T.fd_read_target ["text"] (sp_read_target T.A_NameTooLong T.A_InvalidPath) := by
  refine T.F_read_target.okX sc_read_target (fun vs H Q E h => ?_) (fun cdv A outer s H vs Q E hr h => ?_)
  · obtain ⟨z, rfl, _⟩ := h
    rfl
  · refine ⟨_, (pss_cons (ps_if (pt_cmpR op_gt (pe_callB (c_lenS) (by rfl) T.n_len (by decide +kernel) (pa_cons (pv 0) pa_nil)) (pe_glob rfl T.c_MOST_PATH T.r_MOST_PATH) (nomark _))
       (pss_one (ps_rzF rfl (takes_of rfl rfl rfl rfl) PySem.F.excBase_ValueError T.x_NameTooLong T.m_NameTooLong T.k_NameTooLong (raises_own T.b_NameTooLong T.t_NameTooLong) (by rfl) (pe_joined (.cons pe_str (.cons (pe_fmt (pe_glob rfl T.c_MOST_PATH T.r_MOST_PATH)) (.cons pe_str .nil))))))
       pss_nil)
       (C8.pss_cut (ps_if (PW.pt (pw_or (pt_cmpR op_eq (pv 0) pe_str (nomark _)) (pw_or1 (pt_not (pt_val (pe_call (ok_is_text T) (hr.mono (by decide)) rfl T.m_is_text T.F_is_text.kp T.b_is_text .nil pass0 (pa_cons (pv 0) pa_nil)))))))
       (pss_one (ps_rz rfl (takes_of rfl rfl rfl rfl) PySem.F.excBase_ValueError T.x_InvalidPath T.m_InvalidPath T.k_InvalidPath (raises_own T.b_InvalidPath T.t_InvalidPath) (by rfl)))
       pss_nil)
       (pss_one (ps_ret (pe_call (ok_names_in T) (hr.mono (by decide)) rfl T.m_names_in T.F_names_in.kp T.b_names_in .nil pass0 (pa_cons (pv 0) pa_nil)))))), ?_⟩
    try dsimp only [cxOf, Cx.nox, Cx.wish]
    obtain ⟨z, rfl, hl, q0, q1, q2⟩ := h
    have hlz := len_tl z
    walk_at "go"
    refine to_ite (fun h1 => ?_) (fun h1 => ?_)
    · have h1' := of_decide_eq_true h1
      walk_at "go"
      exact q1 (by unfold dueF; rw [if_pos (by omega)]) _ (Same.refl _)
    have h1' := of_decide_eq_false h1
    have d1 : dueF z.cps.toList true = (if z.cps.toList.all goodN = false ∨ z.cps.toList = [] then 2 else 0) := by
      unfold dueF
      rw [if_neg (by omega)]
      simp
    have eE : decide (z = Str.ofString "") = decide (z.cps.toList = []) := by
      have := S_empty z.cps.toList
      rw [show decide (z = Str.ofString "") = z.cps.toList.isEmpty from this]
      cases z.cps.toList <;> rfl
    walk_at "go"
    refine r_cut (fun σ' H' => σ' = [some (.str z)] ∧ Same H H' ∧ dueF z.cps.toList true = 0) ?_ ?_
    · walk_at "go"
      rw [eE]
      refine to_ite (fun h2 => ?_) (fun h2 => ?_)
      · walk_at "go"
        exact q2 (by rw [d1, if_pos (.inr (of_decide_eq_true h2))]) _ (Same.refl _)
      · walk_at "go"
        rename_i H1 s1
        refine to_ite (fun h3 => ?_) (fun h3 => ?_)
        · walk_at "go"
          exact q2 (by rw [d1, if_pos (.inl (by simpa using h3))]) _ s1
        · walk_at "go"
          exact ⟨rfl, s1, by
            have h2' := of_decide_eq_false h2
            have h3' : z.cps.toList.all goodN = true := by simpa using h3
            rw [d1, h3', if_neg (fun z => z.elim (fun e => Bool.noConfusion e) h2')]⟩
    rintro σ' H1 ⟨rfl, s1, hd⟩
    walk_at "go"
    rename_i H2 l s2 nl g2
    exact q0 hd _ _ (s1.trans s2) (s1.free nl) g2

/-! ### the law's texts -/
theorem i_row {K : PySem.W.Frag} {args_ : List V} {H : Hp} {Q : V → Hp → Prop} {E : XK} {a : Addr} {ns : List Int} {k : Int} (ev : args_ = [.ref a, .int k]) (hS : SqL K H a (ns.map V.int)) (h63 : ns.length ≤ 63) (k0 : 0 ≤ k) (k1 : k ≤ 1000) (q : ∀ z : Int, 0 ≤ z → Q (.int z) H) : sp_row K args_ H Q E := ⟨a, ns, k, ev, hS, h63, k0, k1, q⟩
local macro_rules | `(tactic| walk_at "ca1") => `(tactic| with_reducible (refine' Sg.i_row ?ev ?hS ?h63 ?k0 ?k1 ?_; (case ev => (with_unfolding_all rfl)); (case hS => (with_unfolding_all walk_at "pr")); (case h63 => (with_unfolding_all walk_at "pr")); (case k0 => (with_unfolding_all walk_at "pr")); (case k1 => (with_unfolding_all walk_at "pr")); intros))

def sp_char : Sp := fun vs H Q _ => ∃ i : Int, vs = [.int i] ∧ ∀ c : Nat, goodN c = true → Q (.str (SX.S [c])) H
theorem chars_at : ∀ n, n < 94 → ∃ c, (Str.ofString " !\"#$&'()*+,-./0123456789:;<=>?@ABCDEFGHIJKLMNOPQRSTUVWXYZ[\\]^_`" ++ Str.ofString "abcdefghijklmnopqrstuvwxyz{|}~").cps.toList[n]? = some c ∧ goodN c = true := by
  have h : ∀ n, n < 94 → ((Str.ofString " !\"#$&'()*+,-./0123456789:;<=>?@ABCDEFGHIJKLMNOPQRSTUVWXYZ[\\]^_`" ++ Str.ofString "abcdefghijklmnopqrstuvwxyz{|}~").cps.toList[n]?.any goodN) = true := by decide +kernel
  intro n hn
  have := h n hn
  cases e : (Str.ofString " !\"#$&'()*+,-./0123456789:;<=>?@ABCDEFGHIJKLMNOPQRSTUVWXYZ[\\]^_`" ++ Str.ofString "abcdefghijklmnopqrstuvwxyz{|}~").cps.toList[n]? with
  | none => rw [e] at this; cases this
  | some c => rw [e] at this; exact ⟨c, rfl, this⟩
theorem ok_law_char (T : Txt K mg) : FnOk P w K mg base CX0 1 T.a_law_char T.fd_law_char ["number"] sp_char := by
  refine T.F_law_char.ok sc_law_char (fun vs H Q E h => ?_) (fun cdv A outer s H vs Q E hr h => ?_)
  · obtain ⟨i, rfl, _⟩ := h
    rfl
  · refine ⟨_, (pss_cons (ps_set (i := 1) sc_law_char.nd rfl (Or.inl rfl) pe_str)
       (pss_cons (ps_set (i := 1) sc_law_char.nd rfl (Or.inl rfl) (pe_op op_addT (pv 1) pe_str))
       (pss_one (ps_ret (pe_ix ix_str (pv 1) (pe_op op_mod (pe_callTy c_int (by rfl) T.n_int (by decide +kernel) (pa_cons (pv 0) pa_nil)) pe_int) (fun _ _ => rfl)))))), ?_⟩
    try dsimp only [cxOf, Cx.nox, Cx.wish]
    obtain ⟨i, rfl, q⟩ := h
    walk_at "rd"
    refine ⟨_, _, rfl, rfl, by decide +kernel, ?_⟩
    walk_at "rd"
    rename_i y hy y0 y1
    obtain ⟨c, ec, hc⟩ := chars_at y.toNat (by omega)
    refine r_ixs (c := c) (by decide +kernel) ?_ (q c hc)
    rw [show y = ((y.toNat : Nat) : Int) from by omega]
    exact atI_nat ec
def sp_ltext : Sp := fun vs H Q _ => ∃ n k : Int, vs = [.int n, .int k] ∧ 0 ≤ k ∧ k ≤ 1000 ∧ ∀ z : Str, z.length = k.toNat → z.cps.toList.all goodN = true → Q (.str z) H
theorem ok_law_text (T : Txt K mg) : FnOk P w K mg base CX0 2 T.a_law_text T.fd_law_text ["number", "count"] sp_ltext := by
  refine T.F_law_text.ok sc_law_text (fun vs H Q E h => ?_) (fun cdv A outer s H vs Q E hr h => ?_)
  · obtain ⟨n, k, rfl, _⟩ := h
    rfl
  · refine ⟨_, (pss_cons (ps_set (i := 2) sc_law_text.nd rfl (Or.inl rfl) pe_str)
       (pss_cons (ps_set (i := 0) sc_law_text.nd rfl (Or.inl rfl) (pe_callTy c_int (by rfl) T.n_int (by decide +kernel) (pa_cons (pv 0) pa_nil)))
       (pss_cons (ps_for PassesOwn.never rfl (pi_range1 rfl T.n_range (pa_cons (pv 1) pa_nil)) (pg_name (i := 3) sc_law_text.nd rfl (Or.inl rfl))
       (pss_cons (ps_set (i := 2) sc_law_text.nd rfl (Or.inl rfl) (pe_op op_addT (pv 2) (pe_call (ok_law_char T) (hr.mono (by decide)) rfl T.m_law_char T.F_law_char.kp T.b_law_char .nil pass0 (pa_cons (pe_op op_fdiv (pv 0) pe_int) pa_nil))))
       (pss_one (ps_if (pt_cmpR op_lt (pe_op op_mod (pv 3) pe_int) pe_int (nomark _))
       (pss_one (ps_set (i := 0) sc_law_text.nd rfl (Or.inl rfl) (pe_op op_fdiv (pv 0) pe_int)))
       (pss_one (ps_set (i := 0) sc_law_text.nd rfl (Or.inl rfl) (pe_op op_add (pe_op op_mul (pv 0) pe_int) (pv 3))))))))
       (pss_one (ps_ret (pv 2)))))), ?_⟩
    try dsimp only [cxOf, Cx.nox, Cx.wish]
    obtain ⟨n, k, rfl, k0, k1, q⟩ := h
    walk_at "rd"
    refine r_forR (fun i σ' H' => ∃ (n : Int) (z : Str) (v3 : Option V), σ' = [some (.int n), some (.int k), some (.str z), v3] ∧ H = H' ∧ z.length = i ∧ z.cps.toList.all goodN = true) ⟨n, _, _, rfl, rfl, by decide +kernel, by decide +kernel⟩ ?_ ?_
    · rintro i σ' H' hi ⟨n, z, v3, rfl, rfl, hz, hg⟩
      walk_at "rd"
      refine ⟨_, rfl, fun c hc => ?_⟩
      refine ⟨_, _, rfl, rfl, ?_, ?_⟩
      · rw [SX.S_len [c], hz, sz]
        simp
        omega
      have hz2 : (z ++ SX.S [c]).length = i + 1 := by
        rw [app_len, SX.S_len [c], hz]
        rfl
      have hg2 : (z ++ SX.S [c]).cps.toList.all goodN = true := by
        rw [app_tl, List.all_append, hg]
        simp [hc]
      generalize z ++ SX.S [c] = z2 at hz2 hg2
      walk_at "rd"
      refine r_ite (fun _ => ?_) (fun _ => ?_)
      · walk_at "rd"
        exact ⟨_, z2, _, rfl, rfl, hz2, hg2⟩
      · walk_at "rd"
        exact ⟨_, z2, _, rfl, rfl, hz2, hg2⟩
    · rintro σ' H' ⟨n, z, v3, rfl, rfl, hz, hg⟩
      walk_at "rd"
      exact q z hz hg
theorem i_ltext  {args_ : List V} {H : Hp} {Q : V → Hp → Prop} {E : XK} {n k : Int} (ev : args_ = [.int n, .int k]) (k0 : 0 ≤ k) (k1 : k ≤ 1000) (q : ∀ z : Str, z.length = k.toNat → z.cps.toList.all goodN = true → Q (.str z) H) : sp_ltext  args_ H Q E := ⟨n, k, ev, k0, k1, q⟩
local macro_rules | `(tactic| walk_at "ca1") => `(tactic| with_reducible (refine' Sg.i_ltext ?ev ?k0 ?k1 ?_; (case ev => (with_unfolding_all rfl)); (case k0 => (with_unfolding_all walk_at "pr")); (case k1 => (with_unfolding_all walk_at "pr")); intros))


/-! ### the law -/
theorem S_one (c : Nat) : decide (SX.S [c] = Str.ofString "/") = decide (c = 47) := by
  have e47 : (Str.ofString "/").cps.toList = [47] := by decide +kernel
  refine decide_eq_decide.mpr ⟨fun h => ?_, fun h => ?_⟩
  · have := congrArg (fun z : Str => z.cps.toList) h
    dsimp only at this
    rw [e47] at this
    have h2 : [c] = [47] := this
    cases h2
    rfl
  · subst h
    decide +kernel
theorem S_app (a b : List Nat) : SX.S a ++ SX.S b = SX.S (a ++ b) := str_ext (app_tl _ _)
def sp_law_parts  : Sp := fun args_ H Q _ => ∃ (z : Str), args_ = [.str z] ∧ z.length ≤ 2000 ∧ ∀ (H' : Hp) (l : Addr), Same H H' → H l = none → H' l = some (.lst (nms z.cps.toList)) → Q (.ref l) H'
theorem i_law_parts  {args_ : List V} {H : Hp} {Q : V → Hp → Prop} {E : XK} {z : Str} (ev : args_ = [.str z]) (hl : z.length ≤ 2000) (q : ∀ (H' : Hp) (l : Addr), Same H H' → H l = none → H' l = some (.lst (nms z.cps.toList)) → Q (.ref l) H') : sp_law_parts  args_ H Q E := ⟨z, ev, hl, q⟩
local macro_rules | `(tactic| walk_at "ca1") => `(tactic| with_reducible (refine' Sg.i_law_parts ?ev ?hl ?_; (case ev => (with_unfolding_all rfl)); (case hl => (with_unfolding_all walk_at "pr")); intros))

theorem ok_law_parts (T : Txt K mg) : FnOk P w K mg base CX0 1 T.a_law_parts T.fd_law_parts ["text"] sp_law_parts := by
  refine T.F_law_parts.ok sc_law_parts (fun vs H Q E h => ?_) (fun cdv A outer s H vs Q E hr h => ?_)
  · obtain ⟨z, rfl, _⟩ := h
    rfl
  · refine ⟨_, (pss_cons (ps_set (i := 1) sc_law_parts.nd rfl (Or.inl rfl) (pe_lst pa_nil))
       (pss_cons (ps_set (i := 2) sc_law_parts.nd rfl (Or.inl rfl) pe_str)
       (pss_cons (ps_for PassesOwn.never rfl (pi_str (pe_op op_addT (pv 0) pe_str)) (pg_name (i := 3) sc_law_parts.nd rfl (Or.inl rfl))
       (pss_one (ps_if (pt_cmpR op_ne (pv 3) pe_str (nomark _))
       (pss_one (ps_set (i := 2) sc_law_parts.nd rfl (Or.inl rfl) (pe_op op_addT (pv 2) (pv 3))))
       (pss_one (ps_if (pt_cmpR op_ne (pv 2) pe_str (nomark _))
       (pss_cons (ps_expr (pe_bm PySem.F.plainAttrs_list PySem.F.slot_list_append PySem.F.type_list_append mt_append (pv 1) (pa_cons (pv 2) pa_nil)))
       (pss_one (ps_set (i := 2) sc_law_parts.nd rfl (Or.inl rfl) pe_str)))
       pss_nil)))))
       (pss_one (ps_ret (pv 1)))))), ?_⟩
    try dsimp only [cxOf, Cx.nox, Cx.wish]
    obtain ⟨z, rfl, hl, q⟩ := h
    have e47 : (Str.ofString "/").cps.toList = [47] := by decide +kernel
    have l47 : (Str.ofString "/").length = 1 := by decide +kernel
    walk_at "go"
    rename_i l nl H1 s1 g1
    have ez : (z ++ Str.ofString "/").cps.toList = z.cps.toList ++ [47] := by rw [app_tl, e47]
    have lz : (z ++ Str.ofString "/").length = z.length + 1 := by rw [app_len, l47]
    generalize z ++ Str.ofString "/" = y at ez lz
    refine r_forS (fun i σ' H' => ∃ (ps : List (List Nat)) (acc : List Nat) (v3 : Option V), σ' = [some (.str z), some (.ref l), some (.str (SX.S acc)), v3] ∧ Same H H' ∧ H' l = some (.lst (ps.map vS)) ∧ ps ++ prt0 acc (y.cps.toList.drop i) = prt [] z.cps.toList ∧ ps.length ≤ i ∧ acc.length ≤ i) ⟨[], [], _, rfl, s1, g1, by rw [List.drop_zero, ez, prt0_end]; rfl, Nat.le_refl _, Nat.le_refl _⟩ ?_ ?_
    · rintro i c σ' H' hc ⟨ps, acc, v3, rfl, s2, g2, h2, h3, h4⟩
      have hi := (List.getElem?_eq_some_iff.mp hc).1
      rw [len_tl, lz] at hi
      have ed : y.cps.toList.drop i = c :: y.cps.toList.drop (i + 1) := by
        obtain ⟨h, e⟩ := List.getElem?_eq_some_iff.mp hc
        rw [List.drop_eq_getElem_cons h, e]
      rw [ed, prt0] at h2
      have la : (SX.S acc).length = acc.length := SX.S_len acc
      have lc : (SX.S [c]).length = 1 := SX.S_len [c]
      walk_at "go"
      rw [show decide (SX.S [c] = Str.ofString "/") = decide (c = 47) from S_one c]
      refine to_ite (fun h5 => ?_) (fun h5 => ?_)
      · have hc' : ¬ c = 47 := by simpa using h5
        rw [if_neg hc'] at h2
        walk_at "go"
        rw [S_app]
        exact ⟨ps, acc ++ [c], _, rfl, s2, g2, h2, by omega, by rw [List.length_append, List.length_singleton]; omega⟩
      · have hc' : c = 47 := by simpa using h5
        rw [if_pos hc'] at h2
        walk_at "go"
        rw [show decide (SX.S acc = Str.ofString "") = acc.isEmpty from S_empty acc]
        refine to_ite (fun h6 => ?_) (fun h6 => ?_)
        · have ha : ¬ acc = [] := by simpa using h6
          rw [if_neg ha] at h2
          walk_at "go"
          rename_i H2 hH g3
          refine ⟨ps ++ [acc], [], _, rfl, Sg.Same.old s2 nl hH, by rw [g3, List.map_append]; rfl, by rw [List.append_assoc]; exact h2, by rw [List.length_append, List.length_singleton]; omega, Nat.zero_le _⟩
        · have ha : acc = [] := by simpa using h6
          rw [if_pos ha] at h2
          walk_at "go"
          exact ⟨ps, acc, _, rfl, s2, g2, by rw [ha]; exact h2, by omega, by omega⟩
    · rintro σ' H' ⟨ps, acc, v3, rfl, s2, g2, h2, h3, h4⟩
      have e0 : y.cps.toList.drop y.length = [] := List.drop_of_length_le (Nat.le_of_eq (len_tl y))
      rw [e0, prt0, List.append_nil] at h2
      walk_at "go"
      exact q _ _ s2 nl (by rw [g2, h2]; rfl)
def sp_law_bad  : Sp := fun args_ H Q _ => ∃ (z : Str), args_ = [.str z] ∧ Q (.bl (z.cps.toList.any badN)) H
theorem i_law_bad  {args_ : List V} {H : Hp} {Q : V → Hp → Prop} {E : XK} {z : Str} (ev : args_ = [.str z]) (q : Q (.bl (z.cps.toList.any badN)) H) : sp_law_bad  args_ H Q E := ⟨z, ev, q⟩
local macro_rules | `(tactic| walk_at "ca1") => `(tactic| with_reducible (refine' Sg.i_law_bad ?ev ?_; (case ev => (with_unfolding_all rfl))))

theorem ok_law_bad (T : Txt K mg) : FnOk P w K mg base CX0 1 T.a_law_bad T.fd_law_bad ["text"] sp_law_bad := by
  refine T.F_law_bad.ok sc_law_bad (fun vs H Q E h => ?_) (fun cdv A outer s H vs Q E hr h => ?_)
  · obtain ⟨z, rfl, _⟩ := h
    rfl
  · refine ⟨_, (pss_cons (ps_for PassesOwn.never rfl (pi_str (pv 0)) (pg_name (i := 1) sc_law_bad.nd rfl (Or.inl rfl))
       (pss_one (ps_if (PW.pt (pw_or (pt_cmpR op_lt (pe_callB (call_ord) (by rfl) T.n_ord (by decide +kernel) (pa_cons (pv 1) pa_nil)) pe_int (nomark _)) (pw_or1 (pt_cmpR op_gt (pe_callB (call_ord) (by rfl) T.n_ord (by decide +kernel) (pa_cons (pv 1) pa_nil)) pe_int (nomark _)))))
       (pss_one (ps_ret pe_bl))
       pss_nil)))
       (pss_one (ps_ret pe_bl))), ?_⟩
    try dsimp only [cxOf, Cx.nox, Cx.wish]
    obtain ⟨z, rfl, q⟩ := h
    walk_at "go"
    refine r_forS (fun i σ' H' => ∃ (v1 : Option V), σ' = [some (.str z), v1] ∧ H = H' ∧ (z.cps.toList.take i).any badN = false) ⟨_, rfl, rfl, rfl⟩ ?_ ?_
    · rintro i c σ' H' hc ⟨v1, rfl, rfl, h2⟩
      walk_at "go"
      refine ⟨_, rfl, rfl, ?_⟩
      have e : badN c = (decide ((c : Int) < 32) || decide (126 < (c : Int))) := by
        unfold badN
        congr 1
        · exact decide_eq_decide.mpr (by omega)
        · exact decide_eq_decide.mpr (by omega)
      have hb : badN c = true → Q (.bl true) H := fun h => by
        have := List.any_eq_true.mpr ⟨c, List.mem_of_getElem? hc, h⟩
        rw [this] at q
        exact q
      have hg : badN c = false → (z.cps.toList.take (i + 1)).any badN = false := fun h => by
        rw [List.take_add_one, hc, List.any_append, h2, Bool.false_or]
        show List.any [c] badN = false
        rw [List.any_cons, h]
        rfl
      rw [e] at hb hg
      have ec : ((SX.S [c]).cps.getD 0 0 : Nat) = c := rfl
      walk_at "go"
      refine to_ite (fun h5 => ?_) (fun h5 => ?_)
      · walk_at "go"
        exact hb (by rw [show decide ((c : Int) < 32) = true from h5, Bool.true_or])
      · walk_at "go"
        refine ⟨_, rfl, rfl, ?_⟩
        walk_at "go"
        refine to_ite (fun h6 => ?_) (fun h6 => ?_)
        · walk_at "go"
          exact hb (by rw [show decide (126 < (c : Int)) = true from h6, Bool.or_true])
        · walk_at "go"
          exact ⟨_, rfl, rfl, hg (by rw [show decide ((c : Int) < 32) = false from h5, show decide (126 < (c : Int)) = false from h6]; rfl)⟩
    · rintro σ' H' ⟨v1, rfl, rfl, h2⟩
      rw [← len_tl, List.take_length] at h2
      rw [h2] at q
      walk_at "go"
      exact q
theorem S_take (l : List Nat) : decide (SX.S (l.take 1) = Str.ofString "/") = decide (l.head? = some 47) := by
  cases l with
  | nil => decide +kernel
  | cons c r =>
    rw [List.take_succ_cons, List.take_zero, S_one, List.head?_cons]
    exact decide_eq_decide.mpr ⟨fun h => by rw [h], fun h => by cases h; rfl⟩
theorem filt_any (ps : List (List Nat)) : decide (0 < (((ps.filter fun p => decide (28 < (p.length : Int))).map vS).length : Int)) = ps.any fun p => decide (28 < p.length) := by
  rw [List.length_map, Bool.eq_iff_iff, decide_eq_true_iff, List.any_eq_true]
  refine ⟨fun h => ?_, fun ⟨p, hp, h⟩ => ?_⟩
  · obtain ⟨p, hp⟩ := List.exists_mem_of_length_pos (l := ps.filter fun p => decide (28 < (p.length : Int))) (by omega)
    obtain ⟨h1, h2⟩ := List.mem_filter.mp hp
    have h3 := of_decide_eq_true h2
    exact ⟨p, h1, decide_eq_true (by omega)⟩
  · have h3 := of_decide_eq_true h
    have := List.length_pos_of_mem (a := p) (l := ps.filter fun p => decide (28 < (p.length : Int))) (List.mem_filter.mpr ⟨hp, decide_eq_true (by omega)⟩)
    omega
def sp_law_due  : Sp := fun args_ H Q _ => ∃ (z : Str) (t : Bool), args_ = [.str z, .bl t] ∧ z.length ≤ 2000 ∧ 37 ∉ z.cps.toList ∧ ∀ (H' : Hp), Same H H' → Q (.str (dueT (dueF z.cps.toList t))) H'
theorem i_law_due  {args_ : List V} {H : Hp} {Q : V → Hp → Prop} {E : XK} {z : Str} {t : Bool} (ev : args_ = [.str z, .bl t]) (hl : z.length ≤ 2000) (h37 : 37 ∉ z.cps.toList) (q : ∀ (H' : Hp), Same H H' → Q (.str (dueT (dueF z.cps.toList t))) H') : sp_law_due  args_ H Q E := ⟨z, t, ev, hl, h37, q⟩
local macro_rules | `(tactic| walk_at "ca1") => `(tactic| with_reducible (refine' Sg.i_law_due ?ev ?hl ?h37 ?_; (case ev => (with_unfolding_all rfl)); (case hl => (with_unfolding_all walk_at "pr")); (case h37 => (with_unfolding_all walk_at "pr")); intros))

theorem ok_law_due (T : Txt K mg) : FnOk P w K mg base CX0 2 T.a_law_due T.fd_law_due ["text", "target"] sp_law_due := by
  refine T.F_law_due.ok sc_law_due (fun vs H Q E h => ?_) (fun cdv A outer s H vs Q E hr h => ?_)
  · obtain ⟨z, t, rfl, _⟩ := h
    rfl
  · refine ⟨_, (pss_cons (ps_if (pt_cmpR op_gt (pe_callB (c_lenS) (by rfl) T.n_len (by decide +kernel) (pa_cons (pv 0) pa_nil)) pe_int (nomark _))
       (pss_one (ps_ret pe_str))
       pss_nil)
       (C8.pss_cut (ps_if (PW.pt (pw_or (pt_val (pe_call (ok_law_bad T) (hr.mono (by decide)) rfl T.m_law_bad T.F_law_bad.kp T.b_law_bad .nil pass0 (pa_cons (pv 0) pa_nil))) (pw_or (PW.pt (pw_and (pt_val (pv 1)) (pw_and1 (pt_cmpR op_eq (pv 0) pe_str (nomark _))))) (pw_or1 (PW.pt (pw_and (pt_not (pt_val (pv 1))) (pw_and1 (pt_cmpR op_ne (pe_slice sl_str (pv 0) po_none (po_some pe_int)) pe_str (nomark _)))))))))
       (pss_one (ps_ret pe_str))
       pss_nil)
       (pss_cons (ps_set (i := 2) sc_law_due.nd rfl (Or.inl rfl) (pe_call (ok_law_parts T) (hr.mono (by decide)) rfl T.m_law_parts T.F_law_parts.kp T.b_law_parts .nil pass0 (pa_cons (pv 0) pa_nil)))
       (C8.pss_cut (ps_if (PW.pt (pw_and (pt_not (pt_val (pv 1))) (pw_and1 (PW.pt (pw_or (pt_cmpR op_gt (pe_callB (c_len) (by rfl) T.n_len (by decide +kernel) (pa_cons (pv 2) pa_nil)) pe_int (nomark _)) (pw_or1 (pt_cmpR op_gt (pe_callB (c_len) (by rfl) T.n_len (by decide +kernel) (pa_cons (pe_lc (own := [("part", 3)]) (g := gName 3)  rfl sc_law_due.nd (pi_list (pv 2)) (blkOk_by (own := [("part", 3)]) (N := n_law_due) (sc := defScope s_law_due) (by decide +kernel)) (fun _ _ _ _ _ => pg_name (i := 3) sc_law_due.nd rfl (Or.inl rfl)) (fun _ _ _ _ _ => pts_one (pt_cmpR op_gt (pe_callB (c_lenS) (by rfl) T.n_len (by decide +kernel) (pa_cons (pv 3) pa_nil)) pe_int (nomark _))) (fun _ _ _ _ _ => (pv 3))) pa_nil)) pe_int (nomark _))))))))
       (pss_one (ps_ret pe_str))
       pss_nil)
       (pss_one (ps_ret pe_str)))))), ?_⟩
    try dsimp only [cxOf, Cx.nox, Cx.wish]
    obtain ⟨z, t, rfl, hl, h37, q⟩ := h
    have hlz := len_tl z
    have hgb := good_bad h37
    walk_at "go"
    refine to_ite (fun h1 => ?_) (fun h1 => ?_)
    · have h1' := of_decide_eq_true h1
      rw [show dueF z.cps.toList t = 1 from by unfold dueF; rw [if_pos (by omega)]] at q
      walk_at "go"
      exact q _ (Same.refl _)
    have h1' := of_decide_eq_false h1
    have d1 : dueF z.cps.toList t = (if z.cps.toList.all goodN = false ∨ (t = true ∧ z.cps.toList = []) ∨ (t = false ∧ z.cps.toList.head? ≠ some 47) then 2
  else if t = false ∧ (16 < (prt [] z.cps.toList).length ∨ (prt [] z.cps.toList).any (fun p => decide (28 < p.length)) = true) then 1 else 0) := by
      unfold dueF
      rw [if_neg (by omega)]
    have eE : decide (z = Str.ofString "") = decide (z.cps.toList = []) := by
      have := S_empty z.cps.toList
      rw [show decide (z = Str.ofString "") = z.cps.toList.isEmpty from this]
      cases z.cps.toList <;> rfl
    refine r_cut (fun σ' H' => σ' = [some (.str z), some (.bl t), none, none] ∧ H = H' ∧ ¬ (z.cps.toList.all goodN = false ∨ (t = true ∧ z.cps.toList = []) ∨ (t = false ∧ z.cps.toList.head? ≠ some 47))) ?_ ?_
    · walk_at "go"
      have bad : (z.cps.toList.all goodN = false ∨ (t = true ∧ z.cps.toList = []) ∨ (t = false ∧ z.cps.toList.head? ≠ some 47)) → Q (.str (Str.ofString "invalid")) H := fun h => by
        have := q H (Same.refl _)
        rw [d1, if_pos h] at this
        exact this
      refine to_ite (fun h3 => ?_) (fun h3 => ?_)
      · walk_at "go"
        exact bad (.inl (by rw [hgb] at h3; simpa using h3))
      have g3 : z.cps.toList.all goodN = true := by rw [hgb] at h3; simpa using h3
      cases t with
      | true =>
        walk_at "go"
        rw [eE]
        refine to_ite (fun h4 => ?_) (fun h4 => ?_)
        · walk_at "go"
          exact bad (.inr (.inl ⟨rfl, of_decide_eq_true h4⟩))
        · walk_at "go"
          exact ⟨rfl, rfl, by rw [g3]; have := of_decide_eq_false h4; simp; simpa using this⟩
      | false =>
        walk_at "go"
        rw [show decide (SX.S (z.cps.toList.take (Int.toNat 1)) = Str.ofString "/") = decide (z.cps.toList.head? = some 47) from S_take z.cps.toList]
        refine to_ite (fun h4 => ?_) (fun h4 => ?_)
        · walk_at "go"
          exact bad (.inr (.inr ⟨rfl, by simpa using h4⟩))
        · walk_at "go"
          exact ⟨rfl, rfl, by rw [g3]; have h4' : z.cps.toList.head? = some 47 := by simpa using h4
                              rw [h4']; simp⟩
    rintro σ' H' ⟨rfl, rfl, h2⟩
    rw [if_neg h2] at d1
    have pl := prt_len z.cps.toList
    have nmL : (nms z.cps.toList).length = (prt [] z.cps.toList).length := List.length_map _
    walk_at "go"
    rename_i H1 l s1 nl g1
    refine r_cut (fun σ' H' => σ' = [some (.str z), some (.bl t), some (.ref l), none] ∧ Same H H' ∧ dueF z.cps.toList t = 0) ?_ ?_
    · walk_at "go"
      cases t with
      | true =>
        walk_at "go"
        exact ⟨rfl, s1, by rw [d1, if_neg (fun z => Bool.noConfusion z.1)]⟩
      | false =>
        walk_at "go"
        have long : (16 < (prt [] z.cps.toList).length ∨ (prt [] z.cps.toList).any (fun p => decide (28 < p.length)) = true) → ∀ H' : Hp, Same H H' → Q (.str (Str.ofString "long")) H' := fun h H' s => by
          have := q H' s
          rw [d1, if_pos ⟨rfl, h⟩] at this
          exact this
        refine to_ite (fun h4 => ?_) (fun h4 => ?_)
        · have h4' := of_decide_eq_true h4
          walk_at "go"
          exact long (.inl (by omega)) _ s1
        have h4' := of_decide_eq_false h4
        walk_at "go"
        refine r_lcFG (xs := prt [] z.cps.toList) vS (fun p => decide (28 < (p.length : Int))) (.of g1) (by omega) rfl (show (3 : Nat) < 4 by decide) ?_ ?_
        · intro x H' hx s R hR
          have hxl : (SX.S x).length = x.length := SX.S_len x
          have hx2 := prt_mem _ _ x hx
          rw [List.length_nil] at hx2
          unfold vS
          walk_at "go"
          rw [hxl]
          exact hR
        intro H3 l3 s3 n3 g3
        walk_at "go"
        rw [filt_any]
        refine to_ite (fun h5 => ?_) (fun h5 => ?_)
        · walk_at "go"
          exact long (.inr h5) _ (s1.trans s3)
        · walk_at "go"
          exact ⟨rfl, s1.trans s3, by rw [d1, if_neg (by rw [h5]; simp; omega)]⟩
    rintro σ' H3 ⟨rfl, s3, hd⟩
    rw [hd] at q
    walk_at "go"
    exact q _ s3
def sp_law_told  : Sp := fun args_ H Q _ => ∃ (z : Str) (t : Bool), args_ = [.str z, .bl t] ∧ z.length ≤ 2000 ∧ ((dueF z.cps.toList t = 0 → ∀ (H' : Hp) (r l : Addr), Same H H' → H' r = some (.lst [.str (Str.ofString ""), .ref l, .bl (!t && clo z.cps.toList)]) → H' l = some (.lst (nms z.cps.toList)) → Q (.ref r) H')) ∧ ((dueF z.cps.toList t = 1 → ∀ (H' : Hp) (r l : Addr), Same H H' → H' r = some (.lst [.str (Str.ofString "long"), .ref l, .bl false]) → Q (.ref r) H')) ∧ (dueF z.cps.toList t = 2 → ∀ (H' : Hp) (r l : Addr), Same H H' → H' r = some (.lst [.str (Str.ofString "invalid"), .ref l, .bl false]) → Q (.ref r) H')
theorem i_law_told  {args_ : List V} {H : Hp} {Q : V → Hp → Prop} {E : XK} {z : Str} {t : Bool} (ev : args_ = [.str z, .bl t]) (hl : z.length ≤ 2000) (q0 : (dueF z.cps.toList t = 0 → ∀ (H' : Hp) (r l : Addr), Same H H' → H' r = some (.lst [.str (Str.ofString ""), .ref l, .bl (!t && clo z.cps.toList)]) → H' l = some (.lst (nms z.cps.toList)) → Q (.ref r) H')) (q1 : (dueF z.cps.toList t = 1 → ∀ (H' : Hp) (r l : Addr), Same H H' → H' r = some (.lst [.str (Str.ofString "long"), .ref l, .bl false]) → Q (.ref r) H')) (q2 : (dueF z.cps.toList t = 2 → ∀ (H' : Hp) (r l : Addr), Same H H' → H' r = some (.lst [.str (Str.ofString "invalid"), .ref l, .bl false]) → Q (.ref r) H')) : sp_law_told  args_ H Q E := ⟨z, t, ev, hl, q0, q1, q2⟩
local macro_rules | `(tactic| walk_at "ca1") => `(tactic| with_reducible (refine' Sg.i_law_told ?ev ?hl ?q0 ?q1 ?q2; (case ev => (with_unfolding_all rfl)); (case hl => (with_unfolding_all walk_at "pr"))))

theorem ok_law_told (T : Txt K mg) : FnOk P w K mg base CX0 4 T.a_law_told T.fd_law_told ["text", "target"] sp_law_told := by
  refine T.F_law_told.ok sc_law_told (fun vs H Q E h => ?_) (fun cdv A outer s H vs Q E hr h => ?_)
  · obtain ⟨z, t, rfl, _⟩ := h
    rfl
  · refine ⟨_, (pss_one (ps_tryA (i := 3) rfl rfl sc_law_told.nd rfl rfl ⟨rfl, by decide, .inl T.m_SegmentError⟩ takes0 (fun W pn xe tk _ => (pss_cons (ps_if (pt_val (pv 1))
       (pss_one (ps_ret (pe_lst (pa_cons pe_str (pa_cons (pe_callSD (ok_read_target T) (hr.mono (by decide)) rfl T.m_read_target T.F_read_target.kp T.b_read_target .nil (fun σ => passAt tk σ) (pa_cons (pv 0) pa_nil)) (pa_cons pe_bl pa_nil))))))
       pss_nil)
       (pss_cons (ps_set (i := 2) sc_law_told.nd rfl (Or.inl rfl) (pe_callSD (ok_read_path T) (hr.mono (by decide)) rfl T.m_read_path T.F_read_path.kp T.b_read_path .nil (fun σ => passAt tk σ) (pa_cons (pv 0) pa_nil)))
       (pss_one (ps_ret (pe_lst (pa_cons pe_str (pa_cons (pe_fldK (K := K) rfl (pv 2) rfl) (pa_cons (pe_fldK (K := K) rfl (pv 2) rfl) pa_nil)))))))))
       (fun a oe cls d pn hz hf => (pss_cons (ps_set (i := 4) sc_law_told.nd rfl (Or.inl rfl) (pe_callB (call_isX hz hf) (by rfl) T.n_isinstance (by decide +kernel) (pa_cons (pv 3) (pa_cons (pe_glob rfl T.m_NameTooLong (show RelV (V.ref T.A_NameTooLong) (Value.ref T.A_NameTooLong) from rfl)) pa_nil))))
       (C8.pss_cut (ps_if (PW.pt (pw_or (pt_cmpR op_eq (pv 4) (pe_callB (call_isX hz hf) (by rfl) T.n_isinstance (by decide +kernel) (pa_cons (pv 3) (pa_cons (pe_glob rfl T.m_InvalidPath (show RelV (V.ref T.A_InvalidPath) (Value.ref T.A_InvalidPath) from rfl)) pa_nil))) (nomark _)) (pw_or1 (pt_not (pt_val (pe_callB (call_isX hz hf) (by rfl) T.n_isinstance (by decide +kernel) (pa_cons (pv 3) (pa_cons (pe_bltn (v := .ty "ValueError") (by rfl) T.n_ValueError (by decide +kernel) rfl) pa_nil))))))))
       (pss_one (ps_ret (pe_lst (pa_cons pe_str (pa_cons (pe_lst pa_nil) (pa_cons pe_bl pa_nil))))))
       pss_nil)
       (pss_one (ps_ret (pe_lst (pa_cons (pe_ix (ix_listK (K := K) rfl) (pe_lst (pa_cons pe_str (pa_cons pe_str pa_nil))) (pe_callTy c_int (by rfl) T.n_int (by decide +kernel) (pa_cons (pv 4) pa_nil)) (fun _ _ => rfl)) (pa_cons (pe_lst pa_nil) (pa_cons pe_bl pa_nil))))))))))), ?_⟩
    try dsimp only [cxOf, Cx.nox, Cx.wish]
    obtain ⟨z, t, rfl, hl, q0, q1, q2⟩ := h
    have cl_Path := T.cl_Path
    have na_Path_closed := T.na_Path_closed
    have na_Path_parts := T.na_Path_parts
    cases t with
    | true =>
      walk_at "go"
      case q0 =>
        intro hd H1 l s1 n1 g1
        walk_at "go"
        rename_i r nr H2 s2 g2
        exact q0 hd _ _ _ (s1.trans s2) g2 (s2 _ _ g1)
      case q1 =>
        intro hd H1 s1
        refine wAs_own T.ex_NameTooLong_SegmentError fun a na => ?_
        walk_at "go"
        refine r_isXc T.e_NameTooLong T.kit_NameTooLong_NameTooLong ?_
        walk_at "go"
        refine r_cutS ?_ ?_
        · walk_at "go"
          refine r_isXc T.e_NameTooLong T.kit_NameTooLong_InvalidPath ?_
          walk_at "go"
          refine r_isXt T.e_NameTooLong T.kit_NameTooLong_ValueError ?_
          walk_at "go"
          exact ⟨rfl, rfl⟩
        walk_at "go"
        refine .inr ⟨true, rfl, ?_⟩
        walk_at "go"
        rename_i ls1 nls1 K1 t1 o1 ls2 nls2 K2 t2 o2 r nr K3 t3 o3
        exact q1 hd _ _ _ (s1.trans (t1.trans (t2.trans t3))) o3
      case q2 =>
        intro hd H1 s1
        refine wAs_own T.ex_InvalidPath_SegmentError fun a na => ?_
        walk_at "go"
        refine r_isXc T.e_InvalidPath T.kit_InvalidPath_NameTooLong ?_
        walk_at "go"
        refine r_cutS ?_ ?_
        · walk_at "go"
          refine r_isXc T.e_InvalidPath T.kit_InvalidPath_InvalidPath ?_
          walk_at "go"
          refine r_isXt T.e_InvalidPath T.kit_InvalidPath_ValueError ?_
          walk_at "go"
          exact ⟨rfl, rfl⟩
        walk_at "go"
        refine .inr ⟨false, rfl, ?_⟩
        walk_at "go"
        rename_i ls1 nls1 K1 t1 o1 ls2 nls2 K2 t2 o2 r nr K3 t3 o3
        exact q2 hd _ _ _ (s1.trans (t1.trans (t2.trans t3))) o3
    | false =>
      walk_at "go"
      case q0 =>
        intro hd H1 p s1 np hP
        obtain ⟨l, dx, fs, hp, hp1, hp2, hl1⟩ := hP
        have cl := T.cl_Path
        have na1 := T.na_Path_parts
        have na2 := T.na_Path_closed
        walk_at "go"
        rename_i r nr H2 s2 g2
        exact q0 hd _ _ _ (s1.trans s2) g2 (s2 _ _ hl1)
      case q1 =>
        intro hd H1 s1
        refine wAs_own T.ex_NameTooLong_SegmentError fun a na => ?_
        walk_at "go"
        refine r_isXc T.e_NameTooLong T.kit_NameTooLong_NameTooLong ?_
        walk_at "go"
        refine r_cutS ?_ ?_
        · walk_at "go"
          refine r_isXc T.e_NameTooLong T.kit_NameTooLong_InvalidPath ?_
          walk_at "go"
          refine r_isXt T.e_NameTooLong T.kit_NameTooLong_ValueError ?_
          walk_at "go"
          exact ⟨rfl, rfl⟩
        walk_at "go"
        refine .inr ⟨true, rfl, ?_⟩
        walk_at "go"
        rename_i ls1 nls1 K1 t1 o1 ls2 nls2 K2 t2 o2 r nr K3 t3 o3
        exact q1 hd _ _ _ (s1.trans (t1.trans (t2.trans t3))) o3
      case q2 =>
        intro hd H1 s1
        refine wAs_own T.ex_InvalidPath_SegmentError fun a na => ?_
        walk_at "go"
        refine r_isXc T.e_InvalidPath T.kit_InvalidPath_NameTooLong ?_
        walk_at "go"
        refine r_cutS ?_ ?_
        · walk_at "go"
          refine r_isXc T.e_InvalidPath T.kit_InvalidPath_InvalidPath ?_
          walk_at "go"
          refine r_isXt T.e_InvalidPath T.kit_InvalidPath_ValueError ?_
          walk_at "go"
          exact ⟨rfl, rfl⟩
        walk_at "go"
        refine .inr ⟨false, rfl, ?_⟩
        walk_at "go"
        rename_i ls1 nls1 K1 t1 o1 ls2 nls2 K2 t2 o2 r nr K3 t3 o3
        exact q2 hd _ _ _ (s1.trans (t1.trans (t2.trans t3))) o3
theorem dpa_strs {K : PySem.W.Frag} {H : Hp} : ∀ l : List (List Nat), DpAll K H (l.map vS) (l.map fun p => PyData.str (SX.S p))
  | [] => .nil
  | p :: r => .cons (.str _) (dpa_strs r)
theorem Fl.str {p : List Nat} (h : ∀ c ∈ p, c < 1114112) (n : Nat) : Fl n (.str (SX.S p)) := ⟨by
  have e : PyData.strOk (SX.S p) = true := by
    unfold PyData.strOk
    rw [← Array.all_toList, List.all_eq_true]
    exact fun c hc => decide_eq_true (h c hc)
  simp [PyData.canLay0, e], by simp [PyData.depth]⟩
theorem fl_strs {l : List (List Nat)} (h : ∀ p ∈ l, ∀ c ∈ p, c < 1114112) : Fl 1 (.list (l.map fun p => PyData.str (SX.S p))) := Fl.lst fun d hd => by
  obtain ⟨p, hp, rfl⟩ := List.mem_map.mp hd
  exact Fl.str (h p hp) _
theorem prt_sub : ∀ (l acc : List Nat), ∀ x ∈ prt acc l, ∀ c ∈ x, c ∈ acc ∨ c ∈ l
  | [], acc, x, h, c, hc => by
    rw [prt] at h
    split at h
    · cases h
    · rw [List.mem_singleton.mp h] at hc
      exact .inl hc
  | d :: r, acc, x, h, c, hc => by
    rw [prt] at h
    split at h
    · split at h
      · exact .inr (List.mem_cons_of_mem _ ((prt_sub r [] x h c hc).elim (fun z => nomatch z) id))
      · rcases List.mem_cons.mp h with rfl | h
        · exact .inl hc
        · exact .inr (List.mem_cons_of_mem _ ((prt_sub r [] x h c hc).elim (fun z => nomatch z) id))
    · rcases prt_sub r (acc ++ [d]) x h c hc with z | z
      · rcases List.mem_append.mp z with z | z
        · exact .inl z
        · rw [List.mem_singleton.mp z]
          exact .inr List.mem_cons_self
      · exact .inr (List.mem_cons_of_mem _ z)
theorem due0_good {l : List Nat} {t : Bool} (h : dueF l t = 0) : ∀ p ∈ prt [] l, ∀ c ∈ p, c < 1114112 := fun p hp c hc => by
  have hg : l.all goodN = true := by
    unfold dueF at h
    split at h
    · cases h
    split at h
    · cases h
    · rename_i h1
      cases e : l.all goodN with
      | true => rfl
      | false => exact absurd (.inl e) h1
  have := List.all_eq_true.mp hg c ((prt_sub l [] p hp c hc).elim (fun z => nomatch z) id)
  unfold goodN at this
  simp only [Bool.and_eq_true, decide_eq_true_eq] at this
  omega
theorem r_eqN {K : PySem.W.Frag} {H : Hp} {a b : Addr} {l : List (List Nat)} {Q : V → Hp → Prop} (ha : H a = some (.lst (l.map vS))) (hb : H b = some (.lst (l.map vS))) (hg : ∀ p ∈ l, ∀ c ∈ p, c < 1114112) (q : Q (.bl true) H) : rEqD K (.ref a) (.ref b) H Q := by
  refine r_eqd (.lst (.of ha) (dpa_strs l)) (.lst (.of hb) (dpa_strs l)) (fl_strs hg).shaped (fl_strs hg).shaped ?_
  rw [(fl_strs hg).self]
  exact q
theorem due_le (l : List Nat) (t : Bool) : dueF l t = 0 ∨ dueF l t = 1 ∨ dueF l t = 2 := by
  unfold dueF
  split
  · exact .inr (.inl rfl)
  split
  · exact .inr (.inr rfl)
  split
  · exact .inr (.inl rfl)
  · exact .inl rfl
def sp_law_agrees (K : PySem.W.Frag) : Sp := fun args_ H Q _ => ∃ (z : Str) (t : Bool), args_ = [.str z, .bl t] ∧ z.length ≤ 2000 ∧ 37 ∉ z.cps.toList ∧ ∀ (H' : Hp), Same H H' → Q (.bl true) H'
theorem i_law_agrees {K : PySem.W.Frag} {args_ : List V} {H : Hp} {Q : V → Hp → Prop} {E : XK} {z : Str} {t : Bool} (ev : args_ = [.str z, .bl t]) (hl : z.length ≤ 2000) (h37 : 37 ∉ z.cps.toList) (q : ∀ (H' : Hp), Same H H' → Q (.bl true) H') : sp_law_agrees K args_ H Q E := ⟨z, t, ev, hl, h37, q⟩
local macro_rules | `(tactic| walk_at "ca1") => `(tactic| with_reducible (refine' Sg.i_law_agrees ?ev ?hl ?h37 ?_; (case ev => (with_unfolding_all rfl)); (case hl => (with_unfolding_all walk_at "pr")); (case h37 => (with_unfolding_all walk_at "pr")); intros))

theorem ok_law_agrees (T : Txt K mg) : FnOk P w K mg base CX0 5 T.a_law_agrees T.fd_law_agrees ["text", "target"] (sp_law_agrees K) := by
  refine T.F_law_agrees.ok sc_law_agrees (fun vs H Q E h => ?_) (fun cdv A outer s H vs Q E hr h => ?_)
  · obtain ⟨z, t, rfl, _⟩ := h
    rfl
  · refine ⟨_, (pss_cons (ps_set (i := 2) sc_law_agrees.nd rfl (Or.inl rfl) (pe_call (ok_law_due T) (hr.mono (by decide)) rfl T.m_law_due T.F_law_due.kp T.b_law_due .nil pass0 (pa_cons (pv 0) (pa_cons (pv 1) pa_nil))))
       (pss_cons (ps_set (i := 3) sc_law_agrees.nd rfl (Or.inl rfl) (pe_call (ok_law_told T) (hr.mono (by decide)) rfl T.m_law_told T.F_law_told.kp T.b_law_told .nil pass0 (pa_cons (pv 0) (pa_cons (pv 1) pa_nil))))
       (pss_cons (ps_if (pt_cmpR op_ne (pe_ix ix_list (pv 3) pe_int (fun _ _ => rfl)) (pv 2) (nomark _))
       (pss_one (ps_ret pe_bl))
       pss_nil)
       (pss_cons (ps_if (pt_cmpR op_ne (pv 2) pe_str (nomark _))
       (pss_one (ps_ret pe_bl))
       pss_nil)
       (pss_cons (ps_set (i := 4) sc_law_agrees.nd rfl (Or.inl rfl) (pe_call (ok_law_parts T) (hr.mono (by decide)) rfl T.m_law_parts T.F_law_parts.kp T.b_law_parts .nil pass0 (pa_cons (pv 0) pa_nil)))
       (pss_cons (ps_set (i := 5) sc_law_agrees.nd rfl (Or.inl rfl) (pe_and (pe_not (pv 1)) (pe_and (pe_cmpR op_gt (pe_callB (c_len) (by rfl) T.n_len (by decide +kernel) (pa_cons (pv 4) pa_nil)) pe_int (nomark _)) (pe_one (pe_cmpR op_eq (pe_ix ix_str (pv 0) (pe_un un_neg pe_int) (fun _ _ => rfl)) pe_str (nomark _))))))
       (pss_one (ps_ret (pe_and (pe_callB (call_isi) (by rfl) T.n_isinstance (by decide +kernel) (pa_cons (pe_ix ix_list (pv 3) pe_int (fun _ _ => rfl)) (pa_cons (pe_bltn (v := .ty "list") (by rfl) T.n_list (by decide +kernel) rfl) pa_nil))) (pe_and (pe_cmpR (op_eqD hr.units) (pe_ix ix_list (pv 3) pe_int (fun _ _ => rfl)) (pv 4) (nomark _)) (pe_and (pe_callB (call_isi) (by rfl) T.n_isinstance (by decide +kernel) (pa_cons (pe_ix ix_list (pv 3) pe_int (fun _ _ => rfl)) (pa_cons (pe_bltn (v := .ty "bool") (by rfl) T.n_bool (by decide +kernel) rfl) pa_nil))) (pe_one (pe_cmpR op_eq (pe_ix ix_list (pv 3) pe_int (fun _ _ => rfl)) (pv 5) (nomark _)))))))))))))), ?_⟩
    try dsimp only [cxOf, Cx.nox, Cx.wish]
    obtain ⟨z, t, rfl, hl, h37, q⟩ := h
    walk_at "go"
    case q1 =>
      intro hd H2 r l s2 g2
      rename_i H1 s1
      rw [hd]
      walk_at "go"
      exact q _ (s1.trans s2)
    case q2 =>
      intro hd H2 r l s2 g2
      rename_i H1 s1
      rw [hd]
      walk_at "go"
      exact q _ (s1.trans s2)
    case q0 =>
      intro hd H2 r l s2 g2 g3
      rename_i H1 s1
      rw [hd]
      walk_at "go"
      rename_i H3 l3 s3 n3 g4
      have nmL : (nms z.cps.toList).length = (prt [] z.cps.toList).length := List.length_map _
      have h2 := s3 _ _ g2
      have h3 := s3 _ _ g3
      clear g2 g3
      have S3 := s1.trans (s2.trans s3)
      cases t with
      | true =>
        walk_at "go"
        refine r_eqN h3 g4 (due0_good hd) ?_
        walk_at "go"
        exact q _ S3
      | false =>
        walk_at "go"
        refine to_ite (fun h5 => ?_) (fun h5 => ?_)
        · have h5' : 0 < (prt [] z.cps.toList).length := by have := of_decide_eq_true h5; omega
          have hc : clo z.cps.toList = decide (z.cps.toList.getLast? = some 47) := by
            unfold clo
            rw [decide_eq_true h5', Bool.true_and]
          rw [hc] at h2
          clear hc
          have nz : z.cps.toList ≠ [] := fun e => by rw [e] at h5'; exact absurd h5' (by decide)
          obtain ⟨l', c, el⟩ : ∃ l' c, z.cps.toList = l' ++ [c] := by
            rcases List.eq_nil_or_concat z.cps.toList with e | ⟨l', c, e⟩
            · exact absurd e nz
            · exact ⟨l', c, by rw [e, List.concat_eq_append]⟩
          have e2 : z.cps.toList.getLast? = some c := by rw [el, List.getLast?_append]; rfl
          rw [e2] at h2
          walk_at "go"
          refine r_ixs (c := c) (by omega) (by rw [el]; exact atI_last _ _) ?_
          walk_at "go"
          rw [S_one]
          refine r_eqN h3 g4 (due0_good hd) ?_
          walk_at "go"
          rw [show decide ((!false && decide (some c = some 47)) = decide (c = 47)) = true from by simp]
          exact q _ S3
        · have h5' : ¬ 0 < (prt [] z.cps.toList).length := by have := of_decide_eq_false h5; omega
          have hc : clo z.cps.toList = false := by
            unfold clo
            rw [decide_eq_false h5', Bool.false_and]
          rw [hc] at h2
          walk_at "go"
          refine r_eqN h3 g4 (due0_good hd) ?_
          walk_at "go"
          exact q _ S3

/-! ### text.replace of written texts: a token must be out -/
def PE1 (X : Cx) (e : Expr) (t : TE) : Prop := ∀ (pins : List (Addr × Obj)) (s : Shared) (σ : L2.St) (H : Hp) (Q : V → Hp → Prop), Inv X pins σ H s → t σ H Q → wpAny (model X.prog X.w) X.A (eval e X.env) (fun v s' => 1 ≤ s'.toks ∧ EP X pins σ Q v s') X.xe s
theorem pe1_str {X : Cx} {x : Str} {j : Nat} {pos : Pos} : PE1 X (.Constant (.str x) j pos) (tC (.str x)) := fun _ s _ H _ I h => Calls.Constant_str ⟨by show 1 ≤ s.toks + 1; omega, .str x, H, I.tok _, ⟨_, rfl⟩, h⟩
theorem pe1_opL {X : Cx} {e f : Expr} {te tf : TE} {op : Operator} {r : R2} {pos : Pos} (ho : OpR X (binaryOp op) r) (ha : PE1 X e te) (hb : PE X f tf) : PE1 X (.BinOp e op f pos) (tOp r te tf) := by
  intro pins s σ H Q I h
  refine wpAny_BinOp (wpAny_mono (ha pins s σ H _ I h) (fun v s1 q => ?_) fun _ _ z => z)
  obtain ⟨h1, x, H1, I1, r1, q1⟩ := q
  have h2 : wpAny (model X.prog X.w) X.A (eval f X.env) (fun u s2 => wpAny (model X.prog X.w) X.A (binaryOp op v u) (EP X pins σ Q) X.xe s2) X.xe s1 := thn (hb.run pins s1 σ H1 _ I1 q1) fun u s2 ⟨y, H2, I2, r2, q2⟩ => ho pins s2 σ H2 x y v u Q I2 r1 r2 q2
  refine wpAny_mono (PySem.wpAny_toks h2) (fun u s2 z => ?_) fun _ _ z => z.2
  exact wpAny_mono (PySem.wpAny_toks z.2) (fun _ _ y => ⟨Nat.le_trans h1 (Nat.le_trans z.1 y.1), y.2⟩) fun _ _ y => y.2
theorem pe1_opR {X : Cx} {e f : Expr} {te tf : TE} {op : Operator} {r : R2} {pos : Pos} (ho : OpR X (binaryOp op) r) (ha : PE X e te) (hb : PE1 X f tf) : PE1 X (.BinOp e op f pos) (tOp r te tf) := by
  intro pins s σ H Q I h
  refine wpAny_BinOp (thn (ha.run pins s σ H _ I h) fun v s1 ⟨x, H1, I1, r1, q1⟩ => ?_)
  refine wpAny_mono (hb pins s1 σ H1 _ I1 q1) (fun u s2 q => ?_) fun _ _ z => z
  obtain ⟨h1, y, H2, I2, r2, q2⟩ := q
  exact wpAny_mono (PySem.wpAny_toks (ho pins s2 σ H2 x y v u Q I2 r1 r2 q2)) (fun _ _ z => ⟨Nat.le_trans h1 z.1, z.2⟩) fun _ _ z => z.2
theorem pe_opT {X : Cx} {e f : Expr} {te tf : TE} {op : Operator} {r : R2} {pos : Pos} (ho : OpR X (binaryOp op) r) (ha : PE1 X e te) (hb : L2.PET X f tf) : PE X (.BinOp e op f pos) (tOp r te tf) := by
  refine ⟨fun pins s σ H Q I h => ?_⟩
  refine wpAny_BinOp (wpAny_mono (ha pins s σ H _ I h) (fun v s1 q => ?_) fun _ _ z => z)
  obtain ⟨h1, x, H1, I1, r1, q1⟩ := q
  have h2 : wpAny (model X.prog X.w) X.A (eval f X.env) (EP X pins σ fun y H2 => r x y H2 Q) X.xe s1 := hb pins s1 σ H1 _ h1 I1 q1
  exact thn h2 fun u s2 ⟨y, H2, I2, r2, q2⟩ => ho pins s2 σ H2 x y v u Q I2 r1 r2 q2
def kRepl (y z : Str) (Q : V → Hp → Prop) : V → Hp → Prop := fun v H1 => ∃ x : Str, v = .str x ∧ x.length + (x.length + 1) * z.length ≤ 16777216 ∧ Q (.str (Txt.replace x y z)) H1
theorem r_repl {to : TE} {y z : Str} {σ : L2.St} {H : Hp} {Q : V → Hp → Prop} (h : to σ H (kRepl y z Q)) : CwR.tReplC to y z σ H Q := h
theorem r_krepl {x y z : Str} {H : Hp} {Q : V → Hp → Prop} (hb : x.length + (x.length + 1) * z.length ≤ 16777216) (q : Q (.str (Txt.replace x y z)) H) : kRepl y z Q (.str x) H := ⟨x, rfl, hb, q⟩
theorem repl_keep {y z : List Nat} {n : Nat} (hz : n ∉ z) : ∀ (l : List Nat) (s : Nat), n ∉ l → n ∉ PySem.StrLaws.replS y z s l
  | [], s, _ => by cases s <;> exact fun h => nomatch h
  | c :: r, 0, h => by
    rw [List.mem_cons, not_or] at h
    rw [PySem.StrLaws.replS]
    split
    · rw [List.mem_append, not_or]
      exact ⟨hz, repl_keep hz r _ h.2⟩
    · rw [List.mem_cons, not_or]
      exact ⟨h.1, repl_keep hz r _ h.2⟩
  | c :: r, s + 1, h => by
    rw [List.mem_cons, not_or] at h
    exact repl_keep hz r s h.2
theorem repl37 {x : Str} (h : 37 ∉ x.cps.toList) : 37 ∉ (Txt.replace x (Str.ofString "/") (Str.ofString "_")).cps.toList := by
  rw [PySem.StrLaws.replace_list (by decide +kernel)]
  exact repl_keep (by decide +kernel) _ 0 h
theorem good37 {l : List Nat} (h : l.all goodN = true) : 37 ∉ l := fun m => by
  have := List.all_eq_true.mp h 37 m
  exact absurd this (by decide)
theorem app37 {a b : Str} (h : 37 ∉ a.cps.toList) (h' : 37 ∉ b.cps.toList) : 37 ∉ (a ++ b).cps.toList := by
  rw [app_tl, List.mem_append, not_or]
  exact ⟨h, h'⟩
theorem mul37 {a : Str} {n : Nat} (h : 37 ∉ a.cps.toList) : 37 ∉ (mulS a n).cps.toList := fun m => by
  obtain ⟨x, hx, hc⟩ := List.mem_flatten.mp (show 37 ∈ (List.replicate n a.cps.toList).flatten from m)
  rw [List.eq_of_mem_replicate hx] at hc
  exact h hc
theorem mul_len (a : Str) (n : Nat) : (mulS a n).length = a.length * n := by
  rw [← len_tl]
  show (List.replicate n a.cps.toList).flatten.length = _
  rw [List.length_flatten, List.map_replicate, List.sum_replicate_nat, len_tl, Nat.mul_comm]
def sp_law_string (K : PySem.W.Frag) : Sp := fun args_ H Q _ => ∃ (a : Addr) (ns : List Int) (k : Int), args_ = [.ref a, .int k] ∧ SqL K H a (ns.map V.int) ∧ ns.length ≤ 63 ∧ 0 ≤ k ∧ k ≤ 1000 ∧ ∀ (H' : Hp) (z : Str), Same H H' → z.length ≤ 2000 → 37 ∉ z.cps.toList → Q (.str z) H'
theorem i_law_string {K : PySem.W.Frag} {args_ : List V} {H : Hp} {Q : V → Hp → Prop} {E : XK} {a : Addr} {ns : List Int} {k : Int} (ev : args_ = [.ref a, .int k]) (hS : SqL K H a (ns.map V.int)) (h63 : ns.length ≤ 63) (k0 : 0 ≤ k) (k1 : k ≤ 1000) (q : ∀ (H' : Hp) (z : Str), Same H H' → z.length ≤ 2000 → 37 ∉ z.cps.toList → Q (.str z) H') : sp_law_string K args_ H Q E := ⟨a, ns, k, ev, hS, h63, k0, k1, q⟩
local macro_rules | `(tactic| walk_at "ca1") => `(tactic| with_reducible (refine' Sg.i_law_string ?ev ?hS ?h63 ?k0 ?k1 ?_; (case ev => (with_unfolding_all rfl)); (case hS => (with_unfolding_all walk_at "pr")); (case h63 => (with_unfolding_all walk_at "pr")); (case k0 => (with_unfolding_all walk_at "pr")); (case k1 => (with_unfolding_all walk_at "pr")); intros))

theorem ok_law_string (T : Txt K mg) : FnOk P w K mg base CX0 3 T.a_law_string T.fd_law_string ["script", "k"] (sp_law_string K) := by
  refine T.F_law_string.ok sc_law_string (fun vs H Q E h => ?_) (fun cdv A outer s H vs Q E hr h => ?_)
  · obtain ⟨a, ns, k, rfl, _⟩ := h
    rfl
  · refine ⟨_, (pss_cons (ps_set (i := 2) sc_law_string.nd rfl (Or.inl rfl) (pe_call (ok_law_row T) (hr.mono (by decide)) rfl T.m_law_row T.F_law_row.kp T.b_law_row .nil pass0 (pa_cons (pv 0) (pa_cons (pv 1) pa_nil))))
       (pss_cons (ps_set (i := 3) sc_law_string.nd rfl (Or.inl rfl) (pe_op op_fdiv (pe_callTy c_int (by rfl) T.n_int (by decide +kernel) (pa_cons (pv 2) pa_nil)) pe_int))
       (pss_cons (ps_set (i := 4) sc_law_string.nd rfl (Or.inl rfl) pe_str)
       (pss_cons (ps_for PassesOwn.never rfl (pi_range1 rfl T.n_range (pa_cons (pe_ix ix_list (pe_lst (pa_cons (pe_op op_mod (pe_callTy c_int (by rfl) T.n_int (by decide +kernel) (pa_cons (pv 2) pa_nil)) pe_int) (pa_cons (pe_op op_mod (pe_callTy c_int (by rfl) T.n_int (by decide +kernel) (pa_cons (pv 2) pa_nil)) pe_int) (pa_cons pe_int (pa_cons pe_int pa_nil))))) (pe_op op_mod (pe_op op_fdiv (pe_callTy c_int (by rfl) T.n_int (by decide +kernel) (pa_cons (pv 2) pa_nil)) pe_int) pe_int) (fun _ _ => rfl)) pa_nil)) (pg_name (i := 5) sc_law_string.nd rfl (Or.inl rfl))
       (pss_cons (ps_set (i := 6) sc_law_string.nd rfl (Or.inl rfl) (pe_call (ok_law_text T) (hr.mono (by decide)) rfl T.m_law_text T.F_law_text.kp T.b_law_text .nil pass0 (pa_cons (pv 3) (pa_cons (pe_ix ix_list (pe_lst (pa_cons pe_int (pa_cons (pe_op op_add pe_int (pe_op op_mod (pv 3) pe_int)) (pa_cons pe_int (pa_cons pe_int pa_nil))))) (pe_ix ix_list (pe_lst (pa_cons pe_int (pa_cons pe_int (pa_cons pe_int (pa_cons pe_int (pa_cons pe_int (pa_cons pe_int (pa_cons pe_int (pa_cons pe_int (pa_cons pe_int (pa_cons pe_int (pa_cons pe_int pa_nil)))))))))))) (pe_op op_mod (pv 3) pe_int) (fun _ _ => rfl)) (fun _ _ => rfl)) pa_nil))))
       (pss_cons (ps_set (i := 4) sc_law_string.nd rfl (Or.inl rfl) (pe_opT op_addT (pe1_opR op_addT (pv 4) (pe1_opL op_mulS pe1_str (pe_op op_add pe_int (pe_callTy c_int (by rfl) T.n_int (by decide +kernel) (pa_cons (pe_cmpR op_eq (pe_op op_mod (pv 3) pe_int) pe_int (nomark _)) pa_nil))))) (CwR.pet_replC (pv 6))))
       (pss_one (ps_set (i := 3) sc_law_string.nd rfl (Or.inl rfl) (pe_op op_add (pe_op op_fdiv (pv 3) pe_int) (pe_op op_mul pe_int (pv 5))))))))
       (C8.pss_cut (ps_if (pt_cmpR op_eq (pe_op op_mod (pe_op op_fdiv (pe_callTy c_int (by rfl) T.n_int (by decide +kernel) (pa_cons (pv 2) pa_nil)) pe_int) pe_int) pe_int (nomark _))
       (pss_one (ps_set (i := 4) sc_law_string.nd rfl (Or.inl rfl) (pe_slice sl_str (pv 4) (po_some pe_int) po_none)))
       pss_nil)
       (C8.pss_cut (ps_if (pt_cmpR op_eq (pe_op op_mod (pe_op op_fdiv (pe_callTy c_int (by rfl) T.n_int (by decide +kernel) (pa_cons (pv 2) pa_nil)) pe_int) pe_int) pe_int (nomark _))
       (pss_one (ps_set (i := 4) sc_law_string.nd rfl (Or.inl rfl) (pe_op op_addT (pv 4) pe_str)))
       pss_nil)
       (C8.pss_cut (ps_if (pt_cmpR op_eq (pe_op op_mod (pe_op op_fdiv (pe_callTy c_int (by rfl) T.n_int (by decide +kernel) (pa_cons (pv 2) pa_nil)) pe_int) pe_int) pe_int (nomark _))
       (pss_cons (ps_set (i := 7) sc_law_string.nd rfl (Or.inl rfl) (pe_op op_mod (pv 3) (pe_op op_add (pe_callB (c_lenS) (by rfl) T.n_len (by decide +kernel) (pa_cons (pv 4) pa_nil)) pe_int)))
       (pss_one (ps_set (i := 4) sc_law_string.nd rfl (Or.inl rfl) (pe_op op_addT (pe_op op_addT (pe_slice sl_str (pv 4) po_none (po_some (pv 7))) (pe_ix ix_str pe_str (pe_op op_mod (pe_op op_fdiv (pv 3) pe_int) pe_int) (fun _ _ => rfl))) (pe_slice sl_str (pv 4) (po_some (pv 7)) po_none)))))
       pss_nil)
       (C8.pss_cut (ps_if (pt_cmpR op_eq (pe_op op_mod (pe_op op_fdiv (pe_callTy c_int (by rfl) T.n_int (by decide +kernel) (pa_cons (pv 2) pa_nil)) pe_int) pe_int) pe_int (nomark _))
       (pss_cons (ps_set (i := 4) sc_law_string.nd rfl (Or.inl rfl) (pe_op op_addT (pe_op op_mulS pe_str pe_int) (pe_slice sl_str pe_str po_none (po_some (pe_op op_mod (pv 3) pe_int)))))
       (pss_one (ps_set (i := 4) sc_law_string.nd rfl (Or.inl rfl) (pe_slice sl_str (pv 4) po_none (po_some (pe_op op_add pe_int (pe_op op_mod (pe_op op_fdiv (pv 3) pe_int) pe_int)))))))
       pss_nil)
       (pss_one (ps_ret (pv 4))))))))))), ?_⟩
    try dsimp only [cxOf, Cx.nox, Cx.wish]
    obtain ⟨a, ns, k, rfl, hS, h63, k0, k1, q⟩ := h
    have e1 : (Str.ofString "/").length = 1 := by decide +kernel
    have e1c : 37 ∉ (Str.ofString "/").cps.toList := by decide +kernel
    have eu : (Str.ofString "_").length = 1 := by decide +kernel
    walk_at "go"
    rename_i z z0 d1 _ d10 d11 d2 _ d20 d21 l nl H1 s1 g1 d3 _ d30 d31
    refine r_ixl (.of g1) (at_ints (ts := [d1, d2, 16, 17]) d30 (by show d3 < 4; omega)) ?_
    have cb : 0 ≤ ([d1, d2, 16, 17] : List Int).getD d3.toNat 0 ∧ ([d1, d2, 16, 17] : List Int).getD d3.toNat 0 ≤ 18 := by
      rcases (by omega : d3 = 0 ∨ d3 = 1 ∨ d3 = 2 ∨ d3 = 3) with rfl | rfl | rfl | rfl
      · show 0 ≤ d1 ∧ d1 ≤ 18; omega
      · show 0 ≤ d2 ∧ d2 ≤ 18; omega
      · show 0 ≤ (16 : Int) ∧ (16 : Int) ≤ 18; omega
      · show 0 ≤ (17 : Int) ∧ (17 : Int) ≤ 18; omega
    generalize ([d1, d2, 16, 17] : List Int).getD d3.toNat 0 = cnt at cb
    obtain ⟨c0, c1⟩ := cb
    clear g1
    walk_at "go"
    refine r_forR (fun i σ' H' => ∃ (rest : Int) (y : Str) (v5 v6 : Option V), σ' = [some (.ref a), some (.int k), some (.int z), some (.int rest), some (.str y), v5, v6, none] ∧ Same H H' ∧ y.length ≤ 61 * i ∧ 37 ∉ y.cps.toList) ⟨_, _, _, _, rfl, s1, by decide +kernel, by decide +kernel⟩ ?_ ?_
    · rintro i σ' H' hi ⟨rest, y, v5, v6, rfl, s2, hy, h37⟩
      have hi18 : i < 18 := by omega
      clear s1
      walk_at "go"
      rename_i r5 _ r50 r51 l5 nl5 H5 s5 g5 l6 nl6 H6 s6 g6 r11 _ r110 r111
      refine r_ixl (.of g6) (at_ints (ts := [0, 0, 0, 1, 1, 1, 1, 2, 2, 2, 3]) r110 (by show r11 < 11; omega)) ?_
      have i4 : ∀ n, n < 11 → 0 ≤ ([0, 0, 0, 1, 1, 1, 1, 2, 2, 2, 3] : List Int).getD n 0 ∧ ([0, 0, 0, 1, 1, 1, 1, 2, 2, 2, 3] : List Int).getD n 0 ≤ 3 := by decide
      obtain ⟨i40, i41⟩ := i4 r11.toNat (by omega)
      generalize ([0, 0, 0, 1, 1, 1, 1, 2, 2, 2, 3] : List Int).getD r11.toNat 0 = ix at i40 i41
      refine r_ixl (.of (s6 _ _ g5)) (at_ints (ts := [1, 1 + r5, 28, 29]) i40 (by show ix < 4; omega)) ?_
      have wb : 1 ≤ ([1, 1 + r5, 28, 29] : List Int).getD ix.toNat 0 ∧ ([1, 1 + r5, 28, 29] : List Int).getD ix.toNat 0 ≤ 29 := by
        rcases (by omega : ix = 0 ∨ ix = 1 ∨ ix = 2 ∨ ix = 3) with rfl | rfl | rfl | rfl
        · show 1 ≤ (1 : Int) ∧ (1 : Int) ≤ 29; omega
        · show 1 ≤ 1 + r5 ∧ 1 + r5 ≤ 29; omega
        · show 1 ≤ (28 : Int) ∧ (28 : Int) ≤ 29; omega
        · show 1 ≤ (29 : Int) ∧ (29 : Int) ≤ 29; omega
      generalize ([1, 1 + r5, 28, 29] : List Int).getD ix.toNat 0 = wl at wb
      obtain ⟨w0, w1⟩ := wb
      have S6 : Same H H6 := s2.trans (s5.trans s6)
      clear s2 s5 s6 g5 g6 nl5 nl6
      walk_at "go"
      rename_i wd hwd hgd r9 _ r90 r91
      have wd37 := good37 hgd
      clear hgd
      refine .inr ⟨decide (r9 = 2), rfl, ?_⟩
      walk_at "go"
      have bb : (0 : Int) ≤ (if decide (r9 = 2) = true then 1 else 0) ∧ (if decide (r9 = 2) = true then 1 else 0) ≤ (1 : Int) := by split <;> decide
      generalize (if decide (r9 = 2) = true then (1 : Int) else 0) = bit at bb
      obtain ⟨b0, b1⟩ := bb
      refine r_mulS (by omega) (by omega) (by rw [e1]; omega) ?_
      have lm := mul_len (Str.ofString "/") (1 + bit).toNat
      have cm := mul37 (n := (1 + bit).toNat) e1c
      generalize mulS (Str.ofString "/") (1 + bit).toNat = mz at lm cm
      rw [e1, Nat.one_mul] at lm
      walk_at "go"
      refine r_repl ?_
      walk_at "go"
      refine r_krepl (by rw [eu]; omega) ?_
      have lr := TK.replace_len wd (Str.ofString "/") (Str.ofString "_")
      have cr := repl37 wd37
      generalize Txt.replace wd (Str.ofString "/") (Str.ofString "_") = rp at lr cr
      rw [eu] at lr
      have la : (y ++ mz).length = y.length + mz.length := app_len y mz
      have lb : (y ++ mz ++ rp).length = (y ++ mz).length + rp.length := app_len (y ++ mz) rp
      walk_at "go"
      exact ⟨_, _, _, _, rfl, S6, by omega, app37 (app37 h37 cm) cr⟩
    rintro σ' H2 ⟨rest, y, v5, v6, rfl, s2, hy, h37⟩
    have hy2 : y.length ≤ 1098 := by
      have : cnt.toNat ≤ 18 := by omega
      have := Nat.mul_le_mul_left 61 this
      omega
    clear hy s1
    walk_at "go"
    refine r_cut (fun σ' H' => ∃ y : Str, σ' = [some (.ref a), some (.int k), some (.int z), some (.int rest), some (.str y), v5, v6, none] ∧ H2 = H' ∧ y.length ≤ 1098 ∧ 37 ∉ y.cps.toList) ?_ ?_
    · walk_at "go"
      refine to_ite (fun hc => ?_) (fun hc => ?_)
      · walk_at "go"
        refine ⟨_, rfl, rfl, ?_, ?_⟩
        · rw [SX.S_len, List.length_drop, len_tl]; omega
        · exact fun m => h37 (List.mem_of_mem_drop m)
      · walk_at "go"
        exact ⟨_, rfl, rfl, hy2, h37⟩
    clear hy2 h37 y
    rintro σ' H' ⟨y, rfl, rfl, hy, h37⟩
    walk_at "go"
    refine r_cut (fun σ' H' => ∃ y : Str, σ' = [some (.ref a), some (.int k), some (.int z), some (.int rest), some (.str y), v5, v6, none] ∧ H2 = H' ∧ y.length ≤ 1099 ∧ 37 ∉ y.cps.toList) ?_ ?_
    · walk_at "go"
      refine to_ite (fun hc => ?_) (fun hc => ?_)
      · walk_at "go"
        exact ⟨_, rfl, rfl, by rw [app_len]; omega, app37 h37 e1c⟩
      · walk_at "go"
        exact ⟨_, rfl, rfl, by omega, h37⟩
    clear hy h37 y
    rintro σ' H' ⟨y, rfl, rfl, hy, h37⟩
    walk_at "go"
    refine r_cut (fun σ' H' => ∃ (y : Str) (v7 : Option V), σ' = [some (.ref a), some (.int k), some (.int z), some (.int rest), some (.str y), v5, v6, v7] ∧ H2 = H' ∧ y.length ≤ 1200 ∧ 37 ∉ y.cps.toList) ?_ ?_
    · walk_at "go"
      refine to_ite (fun hc => ?_) (fun hc => ?_)
      · walk_at "go"
        rename_i at1 _ at10 at11 ct _ ct0 ct1
        have lt := SX.S_len (y.cps.toList.take at1.toNat)
        have ld := SX.S_len (y.cps.toList.drop at1.toNat)
        rw [List.length_take, len_tl] at lt
        rw [List.length_drop, len_tl] at ld
        have ct37 : 37 ∉ (SX.S (y.cps.toList.take at1.toNat)).cps.toList := fun m => h37 (List.mem_of_mem_take m)
        have cd37 : 37 ∉ (SX.S (y.cps.toList.drop at1.toNat)).cps.toList := fun m => h37 (List.mem_of_mem_drop m)
        generalize hT : SX.S (y.cps.toList.take at1.toNat) = yt at lt ct37
        generalize hD : SX.S (y.cps.toList.drop at1.toNat) = yd at ld cd37
        obtain ⟨c, hc1, hc2⟩ : ∃ c, atI (Str.ofString "\n\t").cps.toList ct = some c ∧ 37 ∉ (SX.S [c]).cps.toList := by
          rcases (by omega : ct = 0 ∨ ct = 1) with rfl | rfl
          · exact ⟨10, by decide +kernel, by decide +kernel⟩
          · exact ⟨9, by decide +kernel, by decide +kernel⟩
        refine r_ixs (c := c) (by decide +kernel) hc1 ?_
        have lc : (SX.S [c]).length = 1 := SX.S_len [c]
        generalize SX.S [c] = yc at hc2 lc
        have la : (yt ++ yc).length = yt.length + yc.length := app_len yt yc
        have lb : (yt ++ yc ++ yd).length = (yt ++ yc).length + yd.length := app_len (yt ++ yc) yd
        walk_at "go"
        rw [hD]
        walk_at "go"
        exact ⟨_, _, rfl, rfl, by omega, app37 (app37 ct37 hc2) cd37⟩
      · walk_at "go"
        exact ⟨_, _, rfl, rfl, by omega, h37⟩
    clear hy h37 y
    rintro σ' H' ⟨y, v7, rfl, rfl, hy, h37⟩
    walk_at "go"
    refine r_cut (fun σ' H' => ∃ (y : Str), σ' = [some (.ref a), some (.int k), some (.int z), some (.int rest), some (.str y), v5, v6, v7] ∧ H2 = H' ∧ y.length ≤ 2000 ∧ 37 ∉ y.cps.toList) ?_ ?_
    · walk_at "go"
      refine to_ite (fun hc => ?_) (fun hc => ?_)
      · walk_at "go"
        refine r_mulS ?_ ?_ ?_ ?_
        · decide
        · decide
        · decide +kernel
        have lm : (mulS (Str.ofString "/a") (Int.toNat 100)).length = 200 := by rw [mul_len]; decide +kernel
        have cm := mul37 (a := Str.ofString "/a") (n := Int.toNat 100) (by decide +kernel)
        generalize mulS (Str.ofString "/a") (Int.toNat 100) = mz at lm cm
        walk_at "go"
        rename_i r3 _ r30 r31
        have lt := SX.S_len ((Str.ofString "/bc").cps.toList.take r3.toNat)
        rw [List.length_take] at lt
        have ct37 : 37 ∉ (SX.S ((Str.ofString "/bc").cps.toList.take r3.toNat)).cps.toList := fun m => (by decide +kernel : 37 ∉ (Str.ofString "/bc").cps.toList) (List.mem_of_mem_take m)
        generalize hT : SX.S ((Str.ofString "/bc").cps.toList.take r3.toNat) = yt at lt ct37
        have la : (mz ++ yt).length = mz.length + yt.length := app_len mz yt
        have ca := app37 cm ct37
        walk_at "go"
        generalize mz ++ yt = yy at la ca
        refine ⟨_, rfl, rfl, ?_, ?_⟩
        · rw [SX.S_len, List.length_take, len_tl]
          have : (Str.ofString "/bc").cps.toList.length = 3 := by decide +kernel
          omega
        · exact fun m => ca (List.mem_of_mem_take m)
      · walk_at "go"
        exact ⟨_, rfl, rfl, by omega, h37⟩
    clear hy h37 y
    rintro σ' H' ⟨y, rfl, rfl, hy, h37⟩
    walk_at "go"
    exact q _ _ s2 hy h37
def spLaw (K : PySem.W.Frag) : Sp := fun vs H Q _ => ∃ (a : Addr) (ns : List Int), vs = [.ref a] ∧ SqL K H a (ns.map V.int) ∧ ns.length ≤ 63 ∧ ∀ H', Q (.bl true) H'
theorem r_neS {K : PySem.W.Frag} {H : Hp} {a b : Addr} {ns ms : List Int} {Q : V → Hp → Prop} (ha : SqL K H a (ns.map V.int)) (hb : SqL K H b (ms.map V.int)) (e : ns = ms) (q : Q (.bl false) H) : rNeD K (.ref a) (.ref b) H Q := by
  subst e
  exact r_neI ha hb q
local macro_rules | `(tactic| walk_at "rd1") => `(tactic| with_reducible (first | (refine' Sg.r_mulS ?n0 ?n1 ?hl ?_; (case n0 => (with_unfolding_all decide)); (case n1 => (with_unfolding_all decide)); (case hl => (with_unfolding_all decide +kernel))) | (refine' Sg.r_addT ?hl ?_; (case hl => (with_unfolding_all decide +kernel)))))
/-- a text that is asked -/
def TxtOk (v : V) : Prop := ∃ z : Str, v = .str z ∧ z.length ≤ 2000 ∧ 37 ∉ z.cps.toList
theorem ok_law (T : Txt K mg) : FnOk P w K mg base CX0 6 T.a_law T.fd_law ["script"] (spLaw K) := by
  refine T.F_law.ok sc_law (fun vs H Q E h => ?_) (fun cdv A outer s H vs Q E hr h => ?_)
  · obtain ⟨a, ns, rfl, _⟩ := h
    rfl
  · refine ⟨_, (pss_cons (ps_if (pt_cmpR (op_neD hr.units) (pe_lst (pa_cons (pe_glob rfl T.c_MOST_NAME T.r_MOST_NAME) (pa_cons (pe_glob rfl T.c_MOST_PATH T.r_MOST_PATH) (pa_cons (pe_glob rfl T.c_MOST_NAMES T.r_MOST_NAMES) (pa_cons (pe_glob rfl T.c_MOST_FOLLOWED T.r_MOST_FOLLOWED) (pa_cons (pe_glob rfl T.c_MOST_LINKS T.r_MOST_LINKS) pa_nil)))))) (pe_lst (pa_cons pe_int (pa_cons pe_int (pa_cons pe_int (pa_cons pe_int (pa_cons pe_int pa_nil)))))) (nomark _))
       (pss_one (ps_ret pe_bl))
       pss_nil)
       (pss_cons (ps_for PassesOwn.never rfl (pi_list (pe_lst (pa_cons pe_str (pa_cons pe_str (pa_cons pe_str (pa_cons pe_str (pa_cons pe_str (pa_cons pe_str (pa_cons pe_str (pa_cons (pe_op op_addT pe_str (pe_op op_mulS pe_str pe_int)) (pa_cons (pe_op op_addT pe_str (pe_op op_mulS pe_str pe_int)) (pa_cons (pe_op op_mulS pe_str pe_int) (pa_cons (pe_op op_addT (pe_op op_mulS pe_str pe_int) pe_str) pa_nil))))))))))))) (pg_name (i := 1) sc_law.nd rfl (Or.inl rfl))
       (pss_one (ps_if (PW.pt (pw_or (pt_not (pt_val (pe_call (ok_law_agrees T) (hr.mono (by decide)) rfl T.m_law_agrees T.F_law_agrees.kp T.b_law_agrees .nil pass0 (pa_cons (pv 1) (pa_cons pe_bl pa_nil))))) (pw_or1 (pt_not (pt_val (pe_call (ok_law_agrees T) (hr.mono (by decide)) rfl T.m_law_agrees T.F_law_agrees.kp T.b_law_agrees .nil pass0 (pa_cons (pv 1) (pa_cons pe_bl pa_nil))))))))
       (pss_one (ps_ret pe_bl))
       pss_nil)))
       (pss_cons (ps_for PassesOwn.never rfl (pi_list (pe_lst (pa_cons (pe_op op_mulS pe_str pe_int) (pa_cons (pe_op op_mulS pe_str pe_int) (pa_cons (pe_op op_addT (pe_op op_addT pe_str (pe_op op_mulS pe_str pe_int)) pe_str) (pa_cons (pe_op op_addT pe_str (pe_op op_mulS pe_str pe_int)) (pa_cons (pe_op op_addT pe_str (pe_op op_mulS pe_str pe_int)) pa_nil))))))) (pg_name (i := 1) sc_law.nd rfl (Or.inl rfl))
       (pss_one (ps_if (PW.pt (pw_or (pt_not (pt_val (pe_call (ok_law_agrees T) (hr.mono (by decide)) rfl T.m_law_agrees T.F_law_agrees.kp T.b_law_agrees .nil pass0 (pa_cons (pv 1) (pa_cons pe_bl pa_nil))))) (pw_or1 (pt_not (pt_val (pe_call (ok_law_agrees T) (hr.mono (by decide)) rfl T.m_law_agrees T.F_law_agrees.kp T.b_law_agrees .nil pass0 (pa_cons (pv 1) (pa_cons pe_bl pa_nil))))))))
       (pss_one (ps_ret pe_bl))
       pss_nil)))
       (pss_cons (ps_for PassesOwn.never rfl (pi_range1 rfl T.n_range (pa_cons pe_int pa_nil)) (pg_name (i := 2) sc_law.nd rfl (Or.inl rfl))
       (pss_cons (ps_set (i := 1) sc_law.nd rfl (Or.inl rfl) (pe_call (ok_law_string T) (hr.mono (by decide)) rfl T.m_law_string T.F_law_string.kp T.b_law_string .nil pass0 (pa_cons (pv 0) (pa_cons (pv 2) pa_nil))))
       (pss_one (ps_if (PW.pt (pw_or (pt_not (pt_val (pe_call (ok_law_agrees T) (hr.mono (by decide)) rfl T.m_law_agrees T.F_law_agrees.kp T.b_law_agrees .nil pass0 (pa_cons (pv 1) (pa_cons pe_bl pa_nil))))) (pw_or1 (pt_not (pt_val (pe_call (ok_law_agrees T) (hr.mono (by decide)) rfl T.m_law_agrees T.F_law_agrees.kp T.b_law_agrees .nil pass0 (pa_cons (pv 1) (pa_cons pe_bl pa_nil))))))))
       (pss_one (ps_ret pe_bl))
       pss_nil))))
       (pss_cons (ps_set (i := 3) sc_law.nd rfl (Or.inl rfl) (pe_call (ok_read_path T) (hr.mono (by decide)) rfl T.m_read_path T.F_read_path.kp T.b_read_path .nil passL (pa_cons pe_str pa_nil)))
       (pss_cons (ps_expr (pe_bm PySem.F.plainAttrs_list PySem.F.slot_list_append PySem.F.type_list_append mt_append (pe_fld (pv 3) rfl) (pa_cons pe_str pa_nil)))
       (pss_cons (ps_set (i := 4) sc_law.nd rfl (Or.inl rfl) (pe_lst (pa_cons pe_str pa_nil)))
       (pss_cons (ps_set (i := 5) sc_law.nd rfl (Or.inl rfl) (pe_make T.M_Path (ok_Path___init T) (hr.mono (by decide)) rfl T.m_Path T.b_Path___init .nil pass0 (pa_cons (pv 4) (pa_cons pe_bl pa_nil))))
       (pss_cons (ps_expr (pe_bm PySem.F.plainAttrs_list PySem.F.slot_list_append PySem.F.type_list_append mt_append (pv 4) (pa_cons pe_str pa_nil)))
       (pss_one (ps_ret (pe_and (pe_cmpR (op_eqD hr.units) (pe_fld (pe_call (ok_read_path T) (hr.mono (by decide)) rfl T.m_read_path T.F_read_path.kp T.b_read_path .nil passL (pa_cons pe_str pa_nil)) rfl) (pe_lst (pa_cons pe_str (pa_cons pe_str pa_nil))) (nomark _)) (pe_and (pe_cmpR (op_eqD hr.units) (pe_fld (pv 5) rfl) (pe_lst (pa_cons pe_str pa_nil)) (nomark _)) (pe_one (pe_cmpR op_isBl (pe_fld (pv 5) rfl) pe_bl (nomark _)))))))))))))))), ?_⟩
    try dsimp only [cxOf, Cx.nox, Cx.wish]
    obtain ⟨a, ns, rfl, hS, h63, q⟩ := h
    have cl := T.cl_Path
    have na1 := T.na_Path_parts
    have na2 := T.na_Path_closed
    walk_at "go"
    rename_i l1 n1 H1 s1 g1 l2 n2 H2 s2 g2
    refine r_neS (ns := [28, 200, 16, 8, 40]) (ms := [28, 200, 16, 8, 40]) (.of (s2 _ _ g1)) (.of g2) rfl ?_
    have S2 := s1.trans s2
    clear s1 s2 g1 g2 n1 n2
    walk_at "go"
    rename_i l3 n3 H3 s3 g3
    have S3 := S2.trans s3
    refine r_forL (fun i σ' H' => ∃ (v1 : Option V), σ' = [some (.ref a), v1, none, none, none, none] ∧ Same H3 H') ⟨_, rfl, Same.refl _⟩ (fun i σ' H' _ ⟨_, _, s⟩ => .of (s _ _ g3)) ?_ ?_
    · rintro i x σ' H' hx ⟨v1, rfl, s⟩
      obtain ⟨z, rfl, hz, h37⟩ : TxtOk x := by
        have hm := List.mem_of_getElem? hx
        simp only [List.mem_cons, List.not_mem_nil, or_false] at hm
        rcases hm with rfl | rfl | rfl | rfl | rfl | rfl | rfl | rfl | rfl | rfl | rfl <;> exact ⟨_, rfl, by decide +kernel, by decide +kernel⟩
      walk_at "go"
      rename_i K1 t1 K2 t2
      exact ⟨_, rfl, s.trans (t1.trans t2)⟩
    rintro σ' H4 ⟨v1, rfl, s4⟩
    have S4 := S3.trans s4
    clear S2 s3 g3 n3 S3 s4
    walk_at "go"
    rename_i l5 n5 H5 s5 g5
    have S5 := S4.trans s5
    refine r_forL (fun i σ' H' => ∃ (v1 : Option V), σ' = [some (.ref a), v1, none, none, none, none] ∧ Same H5 H') ⟨_, rfl, Same.refl _⟩ (fun i σ' H' _ ⟨_, _, s⟩ => .of (s _ _ g5)) ?_ ?_
    · rintro i x σ' H' hx ⟨v1, rfl, s⟩
      obtain ⟨z, rfl, hz, h37⟩ : TxtOk x := by
        have hm := List.mem_of_getElem? hx
        simp only [List.mem_cons, List.not_mem_nil, or_false] at hm
        rcases hm with rfl | rfl | rfl | rfl | rfl <;> exact ⟨_, rfl, by decide +kernel, by decide +kernel⟩
      walk_at "go"
      rename_i K1 t1 K2 t2
      exact ⟨_, rfl, s.trans (t1.trans t2)⟩
    rintro σ' H6 ⟨v1, rfl, s6⟩
    have S6 := S5.trans s6
    clear S4 s5 g5 n5 S5 s6
    walk_at "go"
    refine r_forR (fun i σ' H' => ∃ (v1 v2 : Option V), σ' = [some (.ref a), v1, v2, none, none, none] ∧ Same H H') ⟨_, _, rfl, S6⟩ ?_ ?_
    · rintro i σ' H' hi ⟨v1, v2, rfl, s⟩
      have hi24 : i < 24 := hi
      walk_at "go"
      rename_i K0 z t0 hz h37 K1 t1 K2 t2
      exact ⟨_, _, rfl, s.trans (t0.trans (t1.trans t2))⟩
    rintro σ' H7 ⟨v1, v2, rfl, S7⟩
    clear S6
    walk_at "go"
    all_goals first | exact fun z => absurd z (by decide +kernel) | skip
    intro _ H8 p s8 np ⟨l, dx, fs, hp, hp1, hp2, hl1⟩
    have e1 : nms (Str.ofString "/a/b/").cps.toList = [.str (Str.ofString "a"), .str (Str.ofString "b")] := by decide +kernel
    rw [e1] at hl1
    walk_at "go"
    all_goals first | exact fun z => absurd z (by decide +kernel) | skip
    rename_i H9 h9 g9 gl ngl H10 s10 g10 pa H11 la s11 npa nla hPa H12 h12 g12
    obtain ⟨dxa, fsa, ha, ha1, ha2, hla⟩ := hPa
    have na : la ≠ gl := fun z => by rw [z, g10] at nla; cases nla
    have ha' : H12 pa = some (.ins T.A_Path dxa fsa) := at_keep h12 ha (s11 _ _ g10) (by intro z; cases z)
    have hla' : H12 la = some (.lst [.str (Str.ofString "x")]) := by rw [← h12, upd_ne na]; exact hla
    clear ha hla h12 g12
    intro _ H13 p2 s13 np2 ⟨l2, dx2, fs2, hp2', hq1, hq2, hl2⟩
    rw [e1] at hl2
    walk_at "go"
    rename_i pl npl H14 s14 g14
    have ea : ([.str (Str.ofString "a"), .str (Str.ofString "b")] : List V) = ([[97], [98]] : List (List Nat)).map vS := by decide +kernel
    have ex : ([.str (Str.ofString "x")] : List V) = ([[120]] : List (List Nat)).map vS := by decide +kernel
    have hl4 := s14 _ _ hl2
    rw [ea] at hl4 g14
    refine r_eqN hl4 g14 (by decide) ?_
    have ha4 := s14 _ _ (s13 _ _ ha')
    have la4 := s14 _ _ (s13 _ _ hla')
    walk_at "go"
    rename_i pm npm H15 s15 g15
    have la5 := s15 _ _ la4
    rw [ex] at la5 g15
    refine r_eqN la5 g15 (by decide) ?_
    walk_at "go"
    exact q _

end
theorem all_mk {l : PySem.W.OpenLaw} {w : World} {K : PySem.W.Frag} {h : Heap} {mg : Str → Option Value} {fa C_Path f_is_text f_is_code f_Path___init f_read_path f_read_target f_names_in f_law_row f_law_char f_law_text f_law_parts f_law_bad f_law_due f_law_told f_law_agrees f_law_string f_law X_InvalidPath X_NameTooLong X_SegmentError : Addr} (X : K.In h) (G : h.Ns mainGlobals mg) (hfa : mg "law" = some (.ref fa))
    {od_is_text an_is_text od_is_code an_is_code od_Path___init an_Path___init od_read_path an_read_path od_read_target an_read_target od_names_in an_names_in od_law_row an_law_row od_law_char an_law_char od_law_text an_law_text od_law_parts an_law_parts od_law_bad an_law_bad od_law_due an_law_due od_law_told an_law_told od_law_agrees an_law_agrees od_law_string an_law_string od_law an_law : Option Addr} {sl_is_text sl_is_code sl_Path___init sl_read_path sl_read_target sl_names_in sl_law_row sl_law_char sl_law_text sl_law_parts sl_law_bad sl_law_due sl_law_told sl_law_agrees sl_law_string sl_law : Array (Option Value)} {oc_is_text kV_is_text dc_is_text pm_is_text cd_is_text ct_is_text oc_is_code kV_is_code dc_is_code pm_is_code cd_is_code ct_is_code oc_Path___init kV_Path___init dc_Path___init pm_Path___init cd_Path___init ct_Path___init oc_read_path kV_read_path dc_read_path pm_read_path cd_read_path ct_read_path oc_read_target kV_read_target dc_read_target pm_read_target cd_read_target ct_read_target oc_names_in kV_names_in dc_names_in pm_names_in cd_names_in ct_names_in oc_law_row kV_law_row dc_law_row pm_law_row cd_law_row ct_law_row oc_law_char kV_law_char dc_law_char pm_law_char cd_law_char ct_law_char oc_law_text kV_law_text dc_law_text pm_law_text cd_law_text ct_law_text oc_law_parts kV_law_parts dc_law_parts pm_law_parts cd_law_parts ct_law_parts oc_law_bad kV_law_bad dc_law_bad pm_law_bad cd_law_bad ct_law_bad oc_law_due kV_law_due dc_law_due pm_law_due cd_law_due ct_law_due oc_law_told kV_law_told dc_law_told pm_law_told cd_law_told ct_law_told oc_law_agrees kV_law_agrees dc_law_agrees pm_law_agrees cd_law_agrees ct_law_agrees oc_law_string kV_law_string dc_law_string pm_law_string cd_law_string ct_law_string oc_law kV_law dc_law pm_law cd_law ct_law : Value}
    {t_FIRST_CODE t_LAST_CODE t_MOST_FOLLOWED t_MOST_LINKS t_MOST_NAME t_MOST_NAMES t_MOST_PATH t_PERCENT : Tok}
    (mX_InvalidPath : PySem.W.nsIn K mainGlobals "InvalidPath" = some (some (.ref X_InvalidPath)))
    (mX_NameTooLong : PySem.W.nsIn K mainGlobals "NameTooLong" = some (some (.ref X_NameTooLong)))
    (mX_SegmentError : PySem.W.nsIn K mainGlobals "SegmentError" = some (some (.ref X_SegmentError)))
    (xx_InvalidPath : PySem.W.excIn K X_InvalidPath [.type "ValueError", .type "Exception", .type "BaseException", .type "object"] "ValueError.__new__" = true)
    (xk_InvalidPath : PySem.W.keepIn K (.ref X_InvalidPath) = true)
    (xb_InvalidPath : PySem.W.subIn K (.ref X_InvalidPath) (.type "BaseException") = some true)
    (xt_InvalidPath : PySem.W.typeIn K (.ref X_InvalidPath) = some (.type "type"))
    (xga_InvalidPath : PySem.W.findIn K (.ref X_InvalidPath) "__getattribute__" = some (some (.builtin "BaseException.__getattribute__")))
    (xgt_InvalidPath : PySem.W.findIn K (.ref X_InvalidPath) "__getattr__" = some none)
    (xhd_InvalidPath : PySem.W.hasDictIn K X_InvalidPath = true)
    (xca_InvalidPath : PySem.W.findIn K (.ref X_InvalidPath) "__class__" = some (some (.builtin "object.__class__")))
    (xmr_InvalidPath : PySem.W.mroIn K X_InvalidPath (.type "object") = some true)
    (xx_NameTooLong : PySem.W.excIn K X_NameTooLong [.type "ValueError", .type "Exception", .type "BaseException", .type "object"] "ValueError.__new__" = true)
    (xk_NameTooLong : PySem.W.keepIn K (.ref X_NameTooLong) = true)
    (xb_NameTooLong : PySem.W.subIn K (.ref X_NameTooLong) (.type "BaseException") = some true)
    (xt_NameTooLong : PySem.W.typeIn K (.ref X_NameTooLong) = some (.type "type"))
    (xga_NameTooLong : PySem.W.findIn K (.ref X_NameTooLong) "__getattribute__" = some (some (.builtin "BaseException.__getattribute__")))
    (xgt_NameTooLong : PySem.W.findIn K (.ref X_NameTooLong) "__getattr__" = some none)
    (xhd_NameTooLong : PySem.W.hasDictIn K X_NameTooLong = true)
    (xca_NameTooLong : PySem.W.findIn K (.ref X_NameTooLong) "__class__" = some (some (.builtin "object.__class__")))
    (xmr_NameTooLong : PySem.W.mroIn K X_NameTooLong (.type "object") = some true)
    (xsp : PySem.W.specialIn K (.builtin "object.__class__") "__get__" = some (some (.builtin "getset_descriptor.__get__")))
    (xtk : PySem.W.takesIn K (.builtin "object.__class__") = some true)
    (xhd_SegmentError : PySem.W.hasDictIn K X_SegmentError = true)
    (xt_SegmentError : PySem.W.typeIn K (.ref X_SegmentError) = some (.type "type"))
    (xb_SegmentError : PySem.W.subIn K (.ref X_SegmentError) (.type "BaseException") = some true)
    (xs_InvalidPath_InvalidPath : PySem.W.subIn K (.ref X_InvalidPath) (.ref X_InvalidPath) = some true)
    (xs_InvalidPath_NameTooLong : PySem.W.subIn K (.ref X_InvalidPath) (.ref X_NameTooLong) = some false)
    (xn_InvalidPath_NameTooLong : (Value.ref X_InvalidPath == Value.ref X_NameTooLong) = false)
    (xs_InvalidPath_SegmentError : PySem.W.subIn K (.ref X_InvalidPath) (.ref X_SegmentError) = some true)
    (xs_InvalidPath_ValueError : PySem.W.subIn K (.ref X_InvalidPath) (.type "ValueError") = some true)
    (xs_NameTooLong_InvalidPath : PySem.W.subIn K (.ref X_NameTooLong) (.ref X_InvalidPath) = some false)
    (xn_NameTooLong_InvalidPath : (Value.ref X_NameTooLong == Value.ref X_InvalidPath) = false)
    (xs_NameTooLong_NameTooLong : PySem.W.subIn K (.ref X_NameTooLong) (.ref X_NameTooLong) = some true)
    (xs_NameTooLong_SegmentError : PySem.W.subIn K (.ref X_NameTooLong) (.ref X_SegmentError) = some true)
    (xs_NameTooLong_ValueError : PySem.W.subIn K (.ref X_NameTooLong) (.type "ValueError") = some true)
    (mC_Path : PySem.W.nsIn K mainGlobals "Path" = some (some (.ref C_Path)))
    (pg_Path : PySem.W.plainGet K C_Path Str.empty = true)
    (hd_Path : PySem.W.hasDictIn K C_Path = true)
    (po_Path : PySem.W.plainOver K C_Path = true)
    (sa_Path : PySem.W.findIn K (.ref C_Path) "__setattr__" = some (some (.builtin "object.__setattr__")))
    (mk_Path : PySem.W.makesIn K C_Path = true)
    (kc_Path : PySem.W.keepIn K (.ref C_Path) = true)
    (na_Path_parts : PySem.W.findIn K (.ref C_Path) "parts" = some none)
    (na_Path_closed : PySem.W.findIn K (.ref C_Path) "closed" = some none)
    (a_is_text : PySem.W.nsIn K mainGlobals "is_text" = some (some (.ref f_is_text)))
    (l_is_text : K.lookup f_is_text = some ⟨oc_is_text, od_is_text, .func (PySem.W.fnOf "is_text" "is_text" (defArgs s_is_text) (defBody s_is_text) (defScope s_is_text) .none kV_is_text dc_is_text pm_is_text an_is_text cd_is_text ct_is_text), sl_is_text⟩)
    (c_is_text : PySem.W.codeIn K cd_is_text "is_text" = true)
    (k_is_text : PySem.W.keepIn K (.ref f_is_text) = true)
    (a_is_code : PySem.W.nsIn K mainGlobals "_is_code" = some (some (.ref f_is_code)))
    (l_is_code : K.lookup f_is_code = some ⟨oc_is_code, od_is_code, .func (PySem.W.fnOf "_is_code" "_is_code" (defArgs s_is_code) (defBody s_is_code) (defScope s_is_code) .none kV_is_code dc_is_code pm_is_code an_is_code cd_is_code ct_is_code), sl_is_code⟩)
    (c_is_code : PySem.W.codeIn K cd_is_code "_is_code" = true)
    (k_is_code : PySem.W.keepIn K (.ref f_is_code) = true)
    (a_Path___init : PySem.W.findIn K (.ref C_Path) "__init__" = some (some (.ref f_Path___init)))
    (i_Path___init : PySem.W.isFn K (.ref f_Path___init) = true)
    (l_Path___init : K.lookup f_Path___init = some ⟨oc_Path___init, od_Path___init, .func (PySem.W.fnOf "__init__" "Path.__init__" (defArgs s_Path___init) (defBody s_Path___init) (defScope s_Path___init) .none kV_Path___init dc_Path___init pm_Path___init an_Path___init cd_Path___init ct_Path___init), sl_Path___init⟩)
    (c_Path___init : PySem.W.codeIn K cd_Path___init "Path.__init__" = true)
    (k_Path___init : PySem.W.keepIn K (.ref f_Path___init) = true)
    (a_read_path : PySem.W.nsIn K mainGlobals "read_path" = some (some (.ref f_read_path)))
    (l_read_path : K.lookup f_read_path = some ⟨oc_read_path, od_read_path, .func (PySem.W.fnOf "read_path" "read_path" (defArgs s_read_path) (defBody s_read_path) (defScope s_read_path) .none kV_read_path dc_read_path pm_read_path an_read_path cd_read_path ct_read_path), sl_read_path⟩)
    (c_read_path : PySem.W.codeIn K cd_read_path "read_path" = true)
    (k_read_path : PySem.W.keepIn K (.ref f_read_path) = true)
    (a_read_target : PySem.W.nsIn K mainGlobals "read_target" = some (some (.ref f_read_target)))
    (l_read_target : K.lookup f_read_target = some ⟨oc_read_target, od_read_target, .func (PySem.W.fnOf "read_target" "read_target" (defArgs s_read_target) (defBody s_read_target) (defScope s_read_target) .none kV_read_target dc_read_target pm_read_target an_read_target cd_read_target ct_read_target), sl_read_target⟩)
    (c_read_target : PySem.W.codeIn K cd_read_target "read_target" = true)
    (k_read_target : PySem.W.keepIn K (.ref f_read_target) = true)
    (a_names_in : PySem.W.nsIn K mainGlobals "names_in" = some (some (.ref f_names_in)))
    (l_names_in : K.lookup f_names_in = some ⟨oc_names_in, od_names_in, .func (PySem.W.fnOf "names_in" "names_in" (defArgs s_names_in) (defBody s_names_in) (defScope s_names_in) .none kV_names_in dc_names_in pm_names_in an_names_in cd_names_in ct_names_in), sl_names_in⟩)
    (c_names_in : PySem.W.codeIn K cd_names_in "names_in" = true)
    (k_names_in : PySem.W.keepIn K (.ref f_names_in) = true)
    (a_law_row : PySem.W.nsIn K mainGlobals "_law_row" = some (some (.ref f_law_row)))
    (l_law_row : K.lookup f_law_row = some ⟨oc_law_row, od_law_row, .func (PySem.W.fnOf "_law_row" "_law_row" (defArgs s_law_row) (defBody s_law_row) (defScope s_law_row) .none kV_law_row dc_law_row pm_law_row an_law_row cd_law_row ct_law_row), sl_law_row⟩)
    (c_law_row : PySem.W.codeIn K cd_law_row "_law_row" = true)
    (k_law_row : PySem.W.keepIn K (.ref f_law_row) = true)
    (a_law_char : PySem.W.nsIn K mainGlobals "_law_char" = some (some (.ref f_law_char)))
    (l_law_char : K.lookup f_law_char = some ⟨oc_law_char, od_law_char, .func (PySem.W.fnOf "_law_char" "_law_char" (defArgs s_law_char) (defBody s_law_char) (defScope s_law_char) .none kV_law_char dc_law_char pm_law_char an_law_char cd_law_char ct_law_char), sl_law_char⟩)
    (c_law_char : PySem.W.codeIn K cd_law_char "_law_char" = true)
    (k_law_char : PySem.W.keepIn K (.ref f_law_char) = true)
    (a_law_text : PySem.W.nsIn K mainGlobals "_law_text" = some (some (.ref f_law_text)))
    (l_law_text : K.lookup f_law_text = some ⟨oc_law_text, od_law_text, .func (PySem.W.fnOf "_law_text" "_law_text" (defArgs s_law_text) (defBody s_law_text) (defScope s_law_text) .none kV_law_text dc_law_text pm_law_text an_law_text cd_law_text ct_law_text), sl_law_text⟩)
    (c_law_text : PySem.W.codeIn K cd_law_text "_law_text" = true)
    (k_law_text : PySem.W.keepIn K (.ref f_law_text) = true)
    (a_law_parts : PySem.W.nsIn K mainGlobals "_law_parts" = some (some (.ref f_law_parts)))
    (l_law_parts : K.lookup f_law_parts = some ⟨oc_law_parts, od_law_parts, .func (PySem.W.fnOf "_law_parts" "_law_parts" (defArgs s_law_parts) (defBody s_law_parts) (defScope s_law_parts) .none kV_law_parts dc_law_parts pm_law_parts an_law_parts cd_law_parts ct_law_parts), sl_law_parts⟩)
    (c_law_parts : PySem.W.codeIn K cd_law_parts "_law_parts" = true)
    (k_law_parts : PySem.W.keepIn K (.ref f_law_parts) = true)
    (a_law_bad : PySem.W.nsIn K mainGlobals "_law_bad" = some (some (.ref f_law_bad)))
    (l_law_bad : K.lookup f_law_bad = some ⟨oc_law_bad, od_law_bad, .func (PySem.W.fnOf "_law_bad" "_law_bad" (defArgs s_law_bad) (defBody s_law_bad) (defScope s_law_bad) .none kV_law_bad dc_law_bad pm_law_bad an_law_bad cd_law_bad ct_law_bad), sl_law_bad⟩)
    (c_law_bad : PySem.W.codeIn K cd_law_bad "_law_bad" = true)
    (k_law_bad : PySem.W.keepIn K (.ref f_law_bad) = true)
    (a_law_due : PySem.W.nsIn K mainGlobals "_law_due" = some (some (.ref f_law_due)))
    (l_law_due : K.lookup f_law_due = some ⟨oc_law_due, od_law_due, .func (PySem.W.fnOf "_law_due" "_law_due" (defArgs s_law_due) (defBody s_law_due) (defScope s_law_due) .none kV_law_due dc_law_due pm_law_due an_law_due cd_law_due ct_law_due), sl_law_due⟩)
    (c_law_due : PySem.W.codeIn K cd_law_due "_law_due" = true)
    (k_law_due : PySem.W.keepIn K (.ref f_law_due) = true)
    (a_law_told : PySem.W.nsIn K mainGlobals "_law_told" = some (some (.ref f_law_told)))
    (l_law_told : K.lookup f_law_told = some ⟨oc_law_told, od_law_told, .func (PySem.W.fnOf "_law_told" "_law_told" (defArgs s_law_told) (defBody s_law_told) (defScope s_law_told) .none kV_law_told dc_law_told pm_law_told an_law_told cd_law_told ct_law_told), sl_law_told⟩)
    (c_law_told : PySem.W.codeIn K cd_law_told "_law_told" = true)
    (k_law_told : PySem.W.keepIn K (.ref f_law_told) = true)
    (a_law_agrees : PySem.W.nsIn K mainGlobals "_law_agrees" = some (some (.ref f_law_agrees)))
    (l_law_agrees : K.lookup f_law_agrees = some ⟨oc_law_agrees, od_law_agrees, .func (PySem.W.fnOf "_law_agrees" "_law_agrees" (defArgs s_law_agrees) (defBody s_law_agrees) (defScope s_law_agrees) .none kV_law_agrees dc_law_agrees pm_law_agrees an_law_agrees cd_law_agrees ct_law_agrees), sl_law_agrees⟩)
    (c_law_agrees : PySem.W.codeIn K cd_law_agrees "_law_agrees" = true)
    (k_law_agrees : PySem.W.keepIn K (.ref f_law_agrees) = true)
    (a_law_string : PySem.W.nsIn K mainGlobals "_law_string" = some (some (.ref f_law_string)))
    (l_law_string : K.lookup f_law_string = some ⟨oc_law_string, od_law_string, .func (PySem.W.fnOf "_law_string" "_law_string" (defArgs s_law_string) (defBody s_law_string) (defScope s_law_string) .none kV_law_string dc_law_string pm_law_string an_law_string cd_law_string ct_law_string), sl_law_string⟩)
    (c_law_string : PySem.W.codeIn K cd_law_string "_law_string" = true)
    (k_law_string : PySem.W.keepIn K (.ref f_law_string) = true)
    (a_law : PySem.W.nsIn K mainGlobals "law" = some (some (.ref f_law)))
    (l_law : K.lookup f_law = some ⟨oc_law, od_law, .func (PySem.W.fnOf "law" "law" (defArgs s_law) (defBody s_law) (defScope s_law) .none kV_law dc_law pm_law an_law cd_law ct_law), sl_law⟩)
    (c_law : PySem.W.codeIn K cd_law "law" = true)
    (k_law : PySem.W.keepIn K (.ref f_law) = true)
    (q_FIRST_CODE : PySem.W.nsIn K mainGlobals "FIRST_CODE" = some (some (.int 32 t_FIRST_CODE)))
    (q_LAST_CODE : PySem.W.nsIn K mainGlobals "LAST_CODE" = some (some (.int 126 t_LAST_CODE)))
    (q_MOST_FOLLOWED : PySem.W.nsIn K mainGlobals "MOST_FOLLOWED" = some (some (.int 8 t_MOST_FOLLOWED)))
    (q_MOST_LINKS : PySem.W.nsIn K mainGlobals "MOST_LINKS" = some (some (.int 40 t_MOST_LINKS)))
    (q_MOST_NAME : PySem.W.nsIn K mainGlobals "MOST_NAME" = some (some (.int 28 t_MOST_NAME)))
    (q_MOST_NAMES : PySem.W.nsIn K mainGlobals "MOST_NAMES" = some (some (.int 16 t_MOST_NAMES)))
    (q_MOST_PATH : PySem.W.nsIn K mainGlobals "MOST_PATH" = some (some (.int 200 t_MOST_PATH)))
    (q_PERCENT : PySem.W.nsIn K mainGlobals "PERCENT" = some (some (.int 37 t_PERCENT)))
    (n_ValueError : PySem.W.nsIn K mainGlobals "ValueError" = some none)
    (n_all : PySem.W.nsIn K mainGlobals "all" = some none)
    (n_any : PySem.W.nsIn K mainGlobals "any" = some none)
    (n_bool : PySem.W.nsIn K mainGlobals "bool" = some none)
    (n_int : PySem.W.nsIn K mainGlobals "int" = some none)
    (n_isinstance : PySem.W.nsIn K mainGlobals "isinstance" = some none)
    (n_len : PySem.W.nsIn K mainGlobals "len" = some none)
    (n_list : PySem.W.nsIn K mainGlobals "list" = some none)
    (n_ord : PySem.W.nsIn K mainGlobals "ord" = some none)
    (n_range : PySem.W.nsIn K mainGlobals "range" = some none)
    : ∃ fd : FuncData, (∀ (s : Shared) (v : Value), BindsTo s fd ⟨[v], []⟩ [("script", v)]) ∧ ∀ base : Heap, K.In base → base.Ns mainGlobals mg → FnOk l.prog w K mg base CX0 6 fa fd ["script"] (spLaw K) := by
  have e := hfa.symm.trans (PySem.W.mg_of X G a_law)
  cases e
  have F_is_text := fun_mk (st := s_is_text) l_is_text c_is_text k_is_text
  have b_is_text := F_is_text.binds (ps := ["text"]) fun _ _ _ _ _ _ us hl => match us, hl with | [_], _ => rfl
  have F_is_code := fun_mk (st := s_is_code) l_is_code c_is_code k_is_code
  have b_is_code := F_is_code.binds (ps := ["number"]) fun _ _ _ _ _ _ us hl => match us, hl with | [_], _ => rfl
  have F_Path___init := fun_mk (st := s_Path___init) l_Path___init c_Path___init k_Path___init
  have b_Path___init := F_Path___init.binds (ps := ["self", "parts", "closed"]) fun _ _ _ _ _ _ us hl => match us, hl with | [_, _, _], _ => rfl
  have F_read_path := fun_mk (st := s_read_path) l_read_path c_read_path k_read_path
  have b_read_path := F_read_path.binds (ps := ["text"]) fun _ _ _ _ _ _ us hl => match us, hl with | [_], _ => rfl
  have F_read_target := fun_mk (st := s_read_target) l_read_target c_read_target k_read_target
  have b_read_target := F_read_target.binds (ps := ["text"]) fun _ _ _ _ _ _ us hl => match us, hl with | [_], _ => rfl
  have F_names_in := fun_mk (st := s_names_in) l_names_in c_names_in k_names_in
  have b_names_in := F_names_in.binds (ps := ["text"]) fun _ _ _ _ _ _ us hl => match us, hl with | [_], _ => rfl
  have F_law_row := fun_mk (st := s_law_row) l_law_row c_law_row k_law_row
  have b_law_row := F_law_row.binds (ps := ["script", "k"]) fun _ _ _ _ _ _ us hl => match us, hl with | [_, _], _ => rfl
  have F_law_char := fun_mk (st := s_law_char) l_law_char c_law_char k_law_char
  have b_law_char := F_law_char.binds (ps := ["number"]) fun _ _ _ _ _ _ us hl => match us, hl with | [_], _ => rfl
  have F_law_text := fun_mk (st := s_law_text) l_law_text c_law_text k_law_text
  have b_law_text := F_law_text.binds (ps := ["number", "count"]) fun _ _ _ _ _ _ us hl => match us, hl with | [_, _], _ => rfl
  have F_law_parts := fun_mk (st := s_law_parts) l_law_parts c_law_parts k_law_parts
  have b_law_parts := F_law_parts.binds (ps := ["text"]) fun _ _ _ _ _ _ us hl => match us, hl with | [_], _ => rfl
  have F_law_bad := fun_mk (st := s_law_bad) l_law_bad c_law_bad k_law_bad
  have b_law_bad := F_law_bad.binds (ps := ["text"]) fun _ _ _ _ _ _ us hl => match us, hl with | [_], _ => rfl
  have F_law_due := fun_mk (st := s_law_due) l_law_due c_law_due k_law_due
  have b_law_due := F_law_due.binds (ps := ["text", "target"]) fun _ _ _ _ _ _ us hl => match us, hl with | [_, _], _ => rfl
  have F_law_told := fun_mk (st := s_law_told) l_law_told c_law_told k_law_told
  have b_law_told := F_law_told.binds (ps := ["text", "target"]) fun _ _ _ _ _ _ us hl => match us, hl with | [_, _], _ => rfl
  have F_law_agrees := fun_mk (st := s_law_agrees) l_law_agrees c_law_agrees k_law_agrees
  have b_law_agrees := F_law_agrees.binds (ps := ["text", "target"]) fun _ _ _ _ _ _ us hl => match us, hl with | [_, _], _ => rfl
  have F_law_string := fun_mk (st := s_law_string) l_law_string c_law_string k_law_string
  have b_law_string := F_law_string.binds (ps := ["script", "k"]) fun _ _ _ _ _ _ us hl => match us, hl with | [_, _], _ => rfl
  have F_law := fun_mk (st := s_law) l_law c_law k_law
  have b_law := F_law.binds (ps := ["script"]) fun _ _ _ _ _ _ us hl => match us, hl with | [_], _ => rfl
  let T : Txt K mg := {
    a_is_text := f_is_text,
    fd_is_text := _,
    F_is_text := F_is_text,
    b_is_text := b_is_text,
    m_is_text := PySem.W.mg_of X G a_is_text,
    a_is_code := f_is_code,
    fd_is_code := _,
    F_is_code := F_is_code,
    b_is_code := b_is_code,
    m_is_code := PySem.W.mg_of X G a_is_code,
    a_Path___init := f_Path___init,
    fd_Path___init := _,
    F_Path___init := F_Path___init,
    b_Path___init := b_Path___init,
    a_read_path := f_read_path,
    fd_read_path := _,
    F_read_path := F_read_path,
    b_read_path := b_read_path,
    m_read_path := PySem.W.mg_of X G a_read_path,
    a_read_target := f_read_target,
    fd_read_target := _,
    F_read_target := F_read_target,
    b_read_target := b_read_target,
    m_read_target := PySem.W.mg_of X G a_read_target,
    a_names_in := f_names_in,
    fd_names_in := _,
    F_names_in := F_names_in,
    b_names_in := b_names_in,
    m_names_in := PySem.W.mg_of X G a_names_in,
    a_law_row := f_law_row,
    fd_law_row := _,
    F_law_row := F_law_row,
    b_law_row := b_law_row,
    m_law_row := PySem.W.mg_of X G a_law_row,
    a_law_char := f_law_char,
    fd_law_char := _,
    F_law_char := F_law_char,
    b_law_char := b_law_char,
    m_law_char := PySem.W.mg_of X G a_law_char,
    a_law_text := f_law_text,
    fd_law_text := _,
    F_law_text := F_law_text,
    b_law_text := b_law_text,
    m_law_text := PySem.W.mg_of X G a_law_text,
    a_law_parts := f_law_parts,
    fd_law_parts := _,
    F_law_parts := F_law_parts,
    b_law_parts := b_law_parts,
    m_law_parts := PySem.W.mg_of X G a_law_parts,
    a_law_bad := f_law_bad,
    fd_law_bad := _,
    F_law_bad := F_law_bad,
    b_law_bad := b_law_bad,
    m_law_bad := PySem.W.mg_of X G a_law_bad,
    a_law_due := f_law_due,
    fd_law_due := _,
    F_law_due := F_law_due,
    b_law_due := b_law_due,
    m_law_due := PySem.W.mg_of X G a_law_due,
    a_law_told := f_law_told,
    fd_law_told := _,
    F_law_told := F_law_told,
    b_law_told := b_law_told,
    m_law_told := PySem.W.mg_of X G a_law_told,
    a_law_agrees := f_law_agrees,
    fd_law_agrees := _,
    F_law_agrees := F_law_agrees,
    b_law_agrees := b_law_agrees,
    m_law_agrees := PySem.W.mg_of X G a_law_agrees,
    a_law_string := f_law_string,
    fd_law_string := _,
    F_law_string := F_law_string,
    b_law_string := b_law_string,
    m_law_string := PySem.W.mg_of X G a_law_string,
    a_law := fa,
    fd_law := _,
    F_law := F_law,
    b_law := b_law,
    m_law := PySem.W.mg_of X G a_law,
    A_InvalidPath := X_InvalidPath,
    m_InvalidPath := PySem.W.mg_of X G mX_InvalidPath,
    A_NameTooLong := X_NameTooLong,
    m_NameTooLong := PySem.W.mg_of X G mX_NameTooLong,
    A_SegmentError := X_SegmentError,
    m_SegmentError := PySem.W.mg_of X G mX_SegmentError,
    x_InvalidPath := xx_InvalidPath,
    k_InvalidPath := xk_InvalidPath,
    b_InvalidPath := xb_InvalidPath,
    t_InvalidPath := xt_InvalidPath,
    e_InvalidPath := ⟨xga_InvalidPath, xgt_InvalidPath, xb_InvalidPath, xhd_InvalidPath, xca_InvalidPath, xsp, xtk, xmr_InvalidPath⟩,
    x_NameTooLong := xx_NameTooLong,
    k_NameTooLong := xk_NameTooLong,
    b_NameTooLong := xb_NameTooLong,
    t_NameTooLong := xt_NameTooLong,
    e_NameTooLong := ⟨xga_NameTooLong, xgt_NameTooLong, xb_NameTooLong, xhd_NameTooLong, xca_NameTooLong, xsp, xtk, xmr_NameTooLong⟩,
    ex_InvalidPath_SegmentError := PySem.W.exm_ref xb_SegmentError xhd_SegmentError xt_SegmentError xs_InvalidPath_SegmentError,
    ex_NameTooLong_SegmentError := PySem.W.exm_ref xb_SegmentError xhd_SegmentError xt_SegmentError xs_NameTooLong_SegmentError,
    kit_InvalidPath_NameTooLong := kit_own xhd_NameTooLong xt_NameTooLong xs_InvalidPath_NameTooLong (.inr xn_InvalidPath_NameTooLong),
    kit_NameTooLong_NameTooLong := kit_own xhd_NameTooLong xt_NameTooLong xs_NameTooLong_NameTooLong (.inl rfl),
    kit_InvalidPath_InvalidPath := kit_own xhd_InvalidPath xt_InvalidPath xs_InvalidPath_InvalidPath (.inl rfl),
    kit_NameTooLong_InvalidPath := kit_own xhd_InvalidPath xt_InvalidPath xs_NameTooLong_InvalidPath (.inr xn_NameTooLong_InvalidPath),
    kit_InvalidPath_ValueError := kit_blt (by decide +kernel) xs_InvalidPath_ValueError,
    kit_NameTooLong_ValueError := kit_blt (by decide +kernel) xs_NameTooLong_ValueError,
    A_Path := C_Path,
    m_Path := PySem.W.mg_of X G mC_Path,
    cl_Path := ⟨pg_Path, hd_Path, po_Path, sa_Path⟩,
    M_Path := ⟨mk_Path, a_Path___init, i_Path___init, kc_Path⟩,
    na_Path_parts := na_Path_parts,
    na_Path_closed := na_Path_closed,
    t_FIRST_CODE := t_FIRST_CODE,
    c_FIRST_CODE := PySem.W.mg_of X G q_FIRST_CODE,
    r_FIRST_CODE := ⟨_, rfl⟩,
    t_LAST_CODE := t_LAST_CODE,
    c_LAST_CODE := PySem.W.mg_of X G q_LAST_CODE,
    r_LAST_CODE := ⟨_, rfl⟩,
    t_MOST_FOLLOWED := t_MOST_FOLLOWED,
    c_MOST_FOLLOWED := PySem.W.mg_of X G q_MOST_FOLLOWED,
    r_MOST_FOLLOWED := ⟨_, rfl⟩,
    t_MOST_LINKS := t_MOST_LINKS,
    c_MOST_LINKS := PySem.W.mg_of X G q_MOST_LINKS,
    r_MOST_LINKS := ⟨_, rfl⟩,
    t_MOST_NAME := t_MOST_NAME,
    c_MOST_NAME := PySem.W.mg_of X G q_MOST_NAME,
    r_MOST_NAME := ⟨_, rfl⟩,
    t_MOST_NAMES := t_MOST_NAMES,
    c_MOST_NAMES := PySem.W.mg_of X G q_MOST_NAMES,
    r_MOST_NAMES := ⟨_, rfl⟩,
    t_MOST_PATH := t_MOST_PATH,
    c_MOST_PATH := PySem.W.mg_of X G q_MOST_PATH,
    r_MOST_PATH := ⟨_, rfl⟩,
    t_PERCENT := t_PERCENT,
    c_PERCENT := PySem.W.mg_of X G q_PERCENT,
    r_PERCENT := ⟨_, rfl⟩,
    n_ValueError := PySem.W.mg_none_of X G n_ValueError,
    n_all := PySem.W.mg_none_of X G n_all,
    n_any := PySem.W.mg_none_of X G n_any,
    n_bool := PySem.W.mg_none_of X G n_bool,
    n_int := PySem.W.mg_none_of X G n_int,
    n_isinstance := PySem.W.mg_none_of X G n_isinstance,
    n_len := PySem.W.mg_none_of X G n_len,
    n_list := PySem.W.mg_none_of X G n_list,
    n_ord := PySem.W.mg_none_of X G n_ord,
    n_range := PySem.W.mg_none_of X G n_range }
  exact ⟨_, fun s v => .of_eq rfl, fun base _ _ => ok_law T⟩
theorem walk {l : PySem.W.OpenLaw} {q : Program} {loose : List Str} {XP : (Str → Option Value) → Heap → Prop} {YP : World → Heap → Prop} {d : DefRec} {K : Params → PySem.W.Frag} (hn : l.most = some 63) (hdf : d.params.defaults = [])
    (hY : ∀ (w : World) (h : Heap), YP w h → (K w.params).In h)
    (F : ∀ (w : World) (mg : Str → Option Value) (fa : Addr) (h : Heap), (K w.params).In h → h.Ns mainGlobals mg → mg d.name = some (.ref fa) →
      ∃ fd : FuncData, (∀ (s : Shared) (u : Value), BindsTo s fd ⟨[u], []⟩ [("script", u)]) ∧ ∀ base : Heap, (K w.params).In base → base.Ns mainGlobals mg → FnOk l.prog w (K w.params) mg base CX0 6 fa fd ["script"] (spLaw (K w.params))) :
    PySem.W.WalkO q loose XP YP l.row.toRowW d [] (fun f vs => PySem.call f vs) :=
  L2.walk_of (n := 63) (k := 6) (x := "script") (CX := fun _ => CX0) (sp := fun w => spLaw (K w.params)) hn (by decide) hdf ⟨rfl, by decide, by decide⟩ hY F (fun _ _ a ns hl hO hS => ⟨a, ns, rfl, hS, hl, fun _ => rfl⟩) fun _ _ _ _ _ z => z
end Sg

open PySem PySem.W PyProof.Rows in
set_option maxRecDepth 100000 in
set_option maxHeartbeats 0 in
theorem PySem.Challenge.cw_segmentfs_k54_read_paths_holds : PySem.Challenge.rw_segmentfs_k54_read_paths.Holds := by
  w_on; o_law; k_head; (case hw => w_witness2)
  k_fill
  refine Sg.walk (l := PySem.Challenge.rw_segmentfs_k54_read_paths) rfl rfl (fun w h Y => PySem.W.kIn_of Y) ?F
  case F =>
    intro w mg fa h KX G hmg
    refine' Sg.all_mk KX G hmg ?mX_InvalidPath ?mX_NameTooLong ?mX_SegmentError ?xx_InvalidPath ?xk_InvalidPath ?xb_InvalidPath ?xt_InvalidPath ?xga_InvalidPath ?xgt_InvalidPath ?xhd_InvalidPath ?xca_InvalidPath ?xmr_InvalidPath ?xx_NameTooLong ?xk_NameTooLong ?xb_NameTooLong ?xt_NameTooLong ?xga_NameTooLong ?xgt_NameTooLong ?xhd_NameTooLong ?xca_NameTooLong ?xmr_NameTooLong ?xsp ?xtk ?xhd_SegmentError ?xt_SegmentError ?xb_SegmentError ?xs_InvalidPath_InvalidPath ?xs_InvalidPath_NameTooLong ?xn_InvalidPath_NameTooLong ?xs_InvalidPath_SegmentError ?xs_InvalidPath_ValueError ?xs_NameTooLong_InvalidPath ?xn_NameTooLong_InvalidPath ?xs_NameTooLong_NameTooLong ?xs_NameTooLong_SegmentError ?xs_NameTooLong_ValueError ?mC_Path ?pg_Path ?hd_Path ?po_Path ?sa_Path ?mk_Path ?kc_Path ?na_Path_parts ?na_Path_closed ?a_is_text ?l_is_text ?c_is_text ?k_is_text ?a_is_code ?l_is_code ?c_is_code ?k_is_code ?a_Path___init ?i_Path___init ?l_Path___init ?c_Path___init ?k_Path___init ?a_read_path ?l_read_path ?c_read_path ?k_read_path ?a_read_target ?l_read_target ?c_read_target ?k_read_target ?a_names_in ?l_names_in ?c_names_in ?k_names_in ?a_law_row ?l_law_row ?c_law_row ?k_law_row ?a_law_char ?l_law_char ?c_law_char ?k_law_char ?a_law_text ?l_law_text ?c_law_text ?k_law_text ?a_law_parts ?l_law_parts ?c_law_parts ?k_law_parts ?a_law_bad ?l_law_bad ?c_law_bad ?k_law_bad ?a_law_due ?l_law_due ?c_law_due ?k_law_due ?a_law_told ?l_law_told ?c_law_told ?k_law_told ?a_law_agrees ?l_law_agrees ?c_law_agrees ?k_law_agrees ?a_law_string ?l_law_string ?c_law_string ?k_law_string ?a_law ?l_law ?c_law ?k_law ?q_FIRST_CODE ?q_LAST_CODE ?q_MOST_FOLLOWED ?q_MOST_LINKS ?q_MOST_NAME ?q_MOST_NAMES ?q_MOST_PATH ?q_PERCENT ?n_ValueError ?n_all ?n_any ?n_bool ?n_int ?n_isinstance ?n_len ?n_list ?n_ord ?n_range
    (case mX_InvalidPath => k_is)
    (case mX_NameTooLong => k_is)
    (case mX_SegmentError => k_is)
    (case xx_InvalidPath => k_exc)
    (case xk_InvalidPath => k_is)
    (case xb_InvalidPath => k_is)
    (case xt_InvalidPath => k_is)
    (case xga_InvalidPath => k_is)
    (case xgt_InvalidPath => k_is)
    (case xhd_InvalidPath => k_is)
    (case xca_InvalidPath => k_is)
    (case xmr_InvalidPath => k_is)
    (case xx_NameTooLong => k_exc)
    (case xk_NameTooLong => k_is)
    (case xb_NameTooLong => k_is)
    (case xt_NameTooLong => k_is)
    (case xga_NameTooLong => k_is)
    (case xgt_NameTooLong => k_is)
    (case xhd_NameTooLong => k_is)
    (case xca_NameTooLong => k_is)
    (case xmr_NameTooLong => k_is)
    (case xsp => k_is)
    (case xtk => k_is)
    (case xhd_SegmentError => k_is)
    (case xt_SegmentError => k_is)
    (case xb_SegmentError => k_is)
    (case xs_InvalidPath_InvalidPath => first | rfl | k_is)
    (case xs_InvalidPath_NameTooLong => first | rfl | k_is)
    (case xn_InvalidPath_NameTooLong => first | rfl | decide +kernel)
    (case xs_InvalidPath_SegmentError => first | rfl | k_is)
    (case xs_InvalidPath_ValueError => first | rfl | k_is)
    (case xs_NameTooLong_InvalidPath => first | rfl | k_is)
    (case xn_NameTooLong_InvalidPath => first | rfl | decide +kernel)
    (case xs_NameTooLong_NameTooLong => first | rfl | k_is)
    (case xs_NameTooLong_SegmentError => first | rfl | k_is)
    (case xs_NameTooLong_ValueError => first | rfl | k_is)
    (case mC_Path => k_is)
    (case pg_Path => k_is)
    (case hd_Path => k_is)
    (case po_Path => k_is)
    (case sa_Path => k_is)
    (case mk_Path => k_is)
    (case kc_Path => k_is)
    (case na_Path_parts => k_is)
    (case na_Path_closed => k_is)
    (case a_is_text => k_is)
    (case l_is_text => k_is)
    (case c_is_text => k_is)
    (case k_is_text => k_is)
    (case a_is_code => k_is)
    (case l_is_code => k_is)
    (case c_is_code => k_is)
    (case k_is_code => k_is)
    (case a_Path___init => k_is)
    (case i_Path___init => k_is)
    (case l_Path___init => k_is)
    (case c_Path___init => k_is)
    (case k_Path___init => k_is)
    (case a_read_path => k_is)
    (case l_read_path => k_is)
    (case c_read_path => k_is)
    (case k_read_path => k_is)
    (case a_read_target => k_is)
    (case l_read_target => k_is)
    (case c_read_target => k_is)
    (case k_read_target => k_is)
    (case a_names_in => k_is)
    (case l_names_in => k_is)
    (case c_names_in => k_is)
    (case k_names_in => k_is)
    (case a_law_row => k_is)
    (case l_law_row => k_is)
    (case c_law_row => k_is)
    (case k_law_row => k_is)
    (case a_law_char => k_is)
    (case l_law_char => k_is)
    (case c_law_char => k_is)
    (case k_law_char => k_is)
    (case a_law_text => k_is)
    (case l_law_text => k_is)
    (case c_law_text => k_is)
    (case k_law_text => k_is)
    (case a_law_parts => k_is)
    (case l_law_parts => k_is)
    (case c_law_parts => k_is)
    (case k_law_parts => k_is)
    (case a_law_bad => k_is)
    (case l_law_bad => k_is)
    (case c_law_bad => k_is)
    (case k_law_bad => k_is)
    (case a_law_due => k_is)
    (case l_law_due => k_is)
    (case c_law_due => k_is)
    (case k_law_due => k_is)
    (case a_law_told => k_is)
    (case l_law_told => k_is)
    (case c_law_told => k_is)
    (case k_law_told => k_is)
    (case a_law_agrees => k_is)
    (case l_law_agrees => k_is)
    (case c_law_agrees => k_is)
    (case k_law_agrees => k_is)
    (case a_law_string => k_is)
    (case l_law_string => k_is)
    (case c_law_string => k_is)
    (case k_law_string => k_is)
    (case a_law => k_is)
    (case l_law => k_is)
    (case c_law => k_is)
    (case k_law => k_is)
    (case q_FIRST_CODE => k_is)
    (case q_LAST_CODE => k_is)
    (case q_MOST_FOLLOWED => k_is)
    (case q_MOST_LINKS => k_is)
    (case q_MOST_NAME => k_is)
    (case q_MOST_NAMES => k_is)
    (case q_MOST_PATH => k_is)
    (case q_PERCENT => k_is)
    (case n_ValueError => k_is)
    (case n_all => k_is)
    (case n_any => k_is)
    (case n_bool => k_is)
    (case n_int => k_is)
    (case n_isinstance => k_is)
    (case n_len => k_is)
    (case n_list => k_is)
    (case n_ord => k_is)
    (case n_range => k_is)

