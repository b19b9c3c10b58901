import PyProof.Rows.All
import Wide.All
import OpenK.AllK
import Wide.FinOn
import HandS.ForMost
import HandS.IsInst
import HandS.Style
import HandS.Wide
import HandS.Codes
import HandS.NoneIn
import HandS.Defaults
import HandS.TupMul
import HandS.Zip
import HandS.SetFor
import HandS.SetKeys
import HandS.Walk
import HandS.Codes
import HandS.Text
import HandS.AnyAll
import HandS.WideBits
import HandS.Iter
import HandS.Rev
import HandS.ForExc
import HandS.CallSlots
import PyProof.WalksMore
import KE.GoesEnum
import PySem.Challenge.RW_segmentfs_k48_superblock_as_octets
set_option Elab.async false
set_option maxRecDepth 100000
set_option maxHeartbeats 4000000
/-! what every text of mine begins with: heaps that grow, and a rule for each head that a reading has -/
namespace Sg
open PySem L2
theorem sz : sizeLine = 16777216 := by decide
theorem Same.of_new {H H' : Hp} {p : Addr} {o : HO} (e : upd H p o = H') (h : H p = none) : Same H H' := fun b u q => by
  rw [← e, upd_ne (ne_of_none q h)]; exact q
theorem at_new {H H' : Hp} {p : Addr} {o : HO} (e : upd H p o = H') : H' p = some o := by rw [← e]; exact upd_same
theorem Same.tup {K : PySem.W.Frag} {H H' : Hp} {a : Addr} {xs : List V} (e : Same H H') (h : SqT K H a xs) : SqT K H' a xs := by
  rcases h with (h | ⟨o, h⟩) | h
  · exact .inl (.inl (e _ _ h))
  · exact .inl (.inr ⟨o, e _ _ h⟩)
  · exact .inr h
/-- an object that is younger than H0 is changed -/
theorem Same.old {H0 H H' : Hp} {p : Addr} {o : HO} (s : Same H0 H) (h : H0 p = none) (e : upd H p o = H') : Same H0 H' := fun b u q => by
  rw [← e, upd_ne (ne_of_none q h)]; exact s _ _ q
theorem at_keep {H H' : Hp} {l a : Addr} {o o' ol : HO} (e : upd H l o' = H') (h : H a = some o) (h' : H l = some ol) (d : o ≠ ol) : H' a = some o := by
  rw [← e, upd_ne (ne_of h h' d)]; exact h
theorem lk_eq {f : Str} {v : V} {fs : List (Str × V)} : (putF f v fs).lookup f = some v := by rw [lookup_putF, if_pos rfl]
theorem lk_ne {f g : Str} {v x : V} {fs : List (Str × V)} (h : ¬ g = f) (q : fs.lookup g = some v) : (putF f x fs).lookup g = some v := by rw [lookup_putF, if_neg h]; exact q
theorem lk_no {f g : Str} {x : V} {fs : List (Str × V)} (h : ¬ g = f) (q : fs.lookup g = none) : (putF f x fs).lookup g = none := by rw [lookup_putF, if_neg h]; exact q
theorem putF_len {f : Str} {v : V} : ∀ {fs : List (Str × V)} {n : Nat}, fs.length ≤ n → (putF f v fs).length ≤ n + 1
  | [], n, _ => by simp [putF]
  | (g, x) :: r, n, h => by
    unfold putF
    split
    · simp at h ⊢; omega
    · cases n with
      | zero => simp at h
      | succ n =>
        simp at h ⊢
        exact putF_len h
theorem to_ite {A B : Prop} {b : Bool} (h1 : b = true → A) (h2 : b = false → B) : if b = true then A else B := by
  cases b with
  | true => exact iteT (h1 rfl)
  | false => exact iteF (h2 rfl)
theorem iteT' {A B : Prop} (h : A) : if (true : Bool) = true then A else B := iteT h
theorem iteF' {A B : Prop} (h : B) : if (false : Bool) = true then A else B := iteF h
theorem r_iteb {A B : Prop} {b : Bool} (hb : b = true) (h : A) : if b = true then A else B := to_ite (fun _ => h) fun z => by rw [hb] at z; cases z
theorem r_iteB {A B : Prop} {b : Bool} (hb : b = false) (h : B) : if b = true then A else B := to_ite (fun z => by rw [hb] at z; cases z) fun _ => h
theorem r_ite {A B c : Prop} [Decidable c] (h1 : c → A) (h2 : ¬ c → B) : if decide c = true then A else B :=
  to_ite (fun h => h1 (of_decide_eq_true h)) (fun h => h2 (of_decide_eq_false h))
theorem r_iteN {A B c : Prop} [Decidable c] (h1 : ¬ c → A) (h2 : c → B) : if (!decide c) = true then A else B :=
  to_ite (fun h => h1 (by simpa using h)) (fun h => h2 (by simpa using h))
theorem r_iteD {A B c : Prop} [Decidable c] (hc : c) (h : A) : if decide c = true then A else B := r_ite (fun _ => h) fun z => absurd hc z
theorem r_iteDn {A B c : Prop} [Decidable c] (hc : ¬ c) (h : B) : if decide c = true then A else B := r_ite (fun z => absurd z hc) fun _ => h
theorem r_iteND {A B c : Prop} [Decidable c] (hc : ¬ c) (h : A) : if (!decide c) = true then A else B := r_iteN (fun _ => h) fun z => absurd z hc
theorem r_iteNDn {A B c : Prop} [Decidable c] (hc : c) (h : B) : if (!decide c) = true then A else B := r_iteN (fun z => absurd hc z) fun _ => h
/-- the continuations of a reading, by name -/
def kTest (QB : Bool → Hp → Prop) : V → Hp → Prop := fun x H => ∃ k, x = .bl k ∧ QB k H
def kFld (K : PySem.W.Frag) (f : Str) (Q : V → Hp → Prop) : V → Hp → Prop := fun x H => ∃ a C dx fs v, x = .ref a ∧ H a = some (.ins C dx fs) ∧ Cls K C ∧ NoAttr K C f ∧ fs.lookup f = some v ∧ Q v H
def kSfld (K : PySem.W.Frag) (D : Ends) (σ : L2.St) (f : Str) (y : V) : V → Hp → Prop := fun x H => ∃ a C dx fs, x = .ref a ∧ H a = some (.ins C dx fs) ∧ Cls K C ∧ NoAttr K C f ∧ fs.length < 1000 ∧
  D.nx σ (upd H a (.ins C dx (putF f y fs)))
def kMeth (C : Addr) (m : Str) (sp : Sp) (dvs : List V) (E : XK) (σ : L2.St) (t : TA) (Q : V → Hp → Prop) : V → Hp → Prop := fun x H => ∃ a dx fs, x = .ref a ∧ H a = some (.ins C dx fs) ∧ fs.lookup m = none ∧ t σ H fun vs H2 => sp (x :: (vs ++ dvs)) H2 Q E
def kTup (Q : V → Hp → Prop) : List V → Hp → Prop := fun xs H => xs.length ≤ sizeLine ∧ ∀ p, H p = none → Q (.ref p) (upd H p (.tup xs))
def kLst (Q : V → Hp → Prop) : List V → Hp → Prop := fun xs H => xs.length ≤ sizeLine ∧ ∀ p, H p = none → Q (.ref p) (upd H p (.lst xs))
def rLen (K : PySem.W.Frag) : List V → Hp → (V → Hp → Prop) → Prop := fun xs H Q => ∃ p ys, xs = [.ref p] ∧ (SqL K H p ys ∨ SqT K H p ys) ∧ Q (.int ys.length) H
theorem c_len {X : Cx} : CallR X (.builtin "len") (rLen X.K) := call_len_seq
def rInt : List V → Hp → (V → Hp → Prop) → Prop := fun xs H Q => (∃ i, xs = [.int i] ∧ Q (.int i) H) ∨ ∃ k, xs = [.bl k] ∧ Q (.int (if k then 1 else 0)) H
theorem c_int {X : Cx} : CallR X (.type "int") rInt := call_int1
def rListOf (K : PySem.W.Frag) : List V → Hp → (V → Hp → Prop) → Prop := fun xs H Q => ∃ p ys, xs = [.ref p] ∧ (SqL K H p ys ∨ SqT K H p ys) ∧ ∀ l, H l = none → Q (.ref l) (upd H l (.lst ys))
theorem c_list {X : Cx} : CallR X (.type "list") (rListOf X.K) := call_list_of
def rTupOf (K : PySem.W.Frag) : List V → Hp → (V → Hp → Prop) → Prop := fun xs H Q => ∃ p ys, xs = [.ref p] ∧ ((SqL K H p ys ∧ ∀ l, H l = none → Q (.ref l) (upd H l (.tup ys))) ∨ (SqT K H p ys ∧ Q (.ref p) H))
theorem c_tuple {X : Cx} : CallR X (.type "tuple") (rTupOf X.K) := call_tuple_of
/-! the same rules within a comprehension: the written part by its own name -/
section
variable {X : Cx}
theorem c_listK (K : PySem.W.Frag) (h : X.K = K) : CallR X (.type "list") (rListOf K) := by subst h; exact c_list
theorem c_tupleK (K : PySem.W.Frag) (h : X.K = K) : CallR X (.type "tuple") (rTupOf K) := by subst h; exact c_tuple
theorem c_lenK (K : PySem.W.Frag) (h : X.K = K) : CallR X (.builtin "len") (rLen K) := by subst h; exact c_len
theorem ix_listK (K : PySem.W.Frag) (h : X.K = K) : IxR X (rIxL K) := by subst h; exact ix_list
theorem ix_tupK (K : PySem.W.Frag) (h : X.K = K) : IxR X (rIxT K) := by subst h; exact ix_tup
theorem op_in_seqK (K : PySem.W.Frag) (h : X.K = K) : OpR X (compareOp .In) (rIn K false) := by subst h; exact op_in_seq
theorem op_notIn_seqK (K : PySem.W.Frag) (h : X.K = K) : OpR X (compareOp .NotIn) (rIn K true) := by subst h; exact op_notIn_seq
theorem pe_fldK (K : PySem.W.Frag) (h : X.K = K) {e : Expr} {f : Str} {pos : Pos} {ta : TE} (he : PE X e ta) (hb : attributeBase e f X.env (eval e X.env) = eval e X.env) : PE X (.Attribute e f pos) (tFld K ta f) := by subst h; exact pe_fld he hb
end
section
variable {σ : L2.St} {H : Hp} {D : Ends} {t u : TS} {te ta tb tc : TE} {g : TG} {c ct cu : TT} {Q : VK} {QB : Bool → Hp → Prop} {QS : L2.St → Hp → Prop} {QA : List V → Hp → Prop} {v x y : V} {K : PySem.W.Frag} {a p l : Addr} {xs ys : List V} {i j : Int} {b : Bool}
theorem r_seq (h : t { D with nx := u D } σ H) : tSeq t u D σ H := h
theorem r_cut (Mid : L2.St → Hp → Prop) (h1 : t { D with nx := Mid } σ H) (h2 : ∀ σ' H', Mid σ' H' → u D σ' H') : C8.tCut t u D σ H := ⟨Mid, h1, h2⟩
/-- a test with nothing kept behind it -/
theorem r_cutS (h1 : t { D with nx := fun σ' H' => σ = σ' ∧ H = H' } σ H) (h2 : u D σ H) : C8.tCut t u D σ H := ⟨_, h1, fun _ _ ⟨e1, e2⟩ => by subst e1; subst e2; exact h2⟩
/-- .. but a heap that grew -/
theorem r_cutH (h1 : t { D with nx := fun σ' H' => σ = σ' ∧ L2.Same H H' } σ H) (h2 : ∀ H', L2.Same H H' → u D σ H') : C8.tCut t u D σ H := ⟨_, h1, fun _ _ ⟨e1, e2⟩ => by subst e1; exact h2 _ e2⟩
theorem r_asg (h : te σ H fun x H1 => g x σ H1 D.nx) : tAsg te g D σ H := h
theorem r_drop (h : te σ H fun _ H1 => D.nx σ H1) : tDrop te D σ H := h
theorem r_ret (h : te σ H D.rt) : tRet te D σ H := h
theorem r_ifs (h : c σ H fun b H1 => if b = true then t D σ H1 else u D σ H1) : tIfS c t u D σ H := h
theorem r_next (h : D.nx σ H) : tNext D σ H := h
theorem r_gname {n : Nat} (h : QS (σ.set n (some v)) H) : gName n v σ H QS := h
theorem r_gtup {n : Nat} {t : TGs} (hx : SqT K H a xs) (hl : xs.length = n) (h : t xs σ H QS) : gTup K n t (.ref a) σ H QS := ⟨a, xs, rfl, hx, hl, h⟩
theorem r_gunl {n : Nat} {t : TGs} (hx : SqL K H a xs) (hl : xs.length = n) (h : t xs σ H QS) : gUnl K n t (.ref a) σ H QS := ⟨a, xs, rfl, hx, hl, h⟩
theorem r_chain {r r' : R2} (h : ta σ H fun x H1 => tb σ H1 fun y H2 => r x y H2 fun z H3 => ∃ k, z = .bl k ∧ (if k = true then tc σ H3 fun w' H4 => r' y w' H4 Q else Q (.bl false) H3)) : tChain r r' ta tb tc σ H Q := h
theorem r_sfldL {C dx : Addr} {fs : List (Str × V)} {f : Str} (h : H a = some (.ins C dx fs)) (hc : Cls K C) (hn : NoAttr K C f) (hl : fs.length < 1000) (q : D.nx σ (upd H a (.ins C dx (putF f y fs)))) : kSfld K D σ f y (.ref a) H := ⟨a, C, dx, fs, rfl, h, hc, hn, hl, q⟩
theorem r_gmap {α : Type} {f : α → V} {y : α} {r : List α} {t : TG} {u : TGs} (h : t (f y) σ H fun σ' H' => u (List.map f r) σ' H' QS) : gCons t u (List.map f (y :: r)) σ H QS := ⟨_, _, rfl, h⟩
theorem r_gmapn {α : Type} {f : α → V} (h : QS σ H) : gNil (List.map f []) σ H QS := ⟨rfl, h⟩
theorem r_gnil (h : QS σ H) : gNil [] σ H QS := ⟨rfl, h⟩
theorem r_gcons {t : TG} {u : TGs} {r : List V} (h : t v σ H fun σ' H' => u r σ' H' QS) : gCons t u (v :: r) σ H QS := ⟨v, r, rfl, h⟩
theorem r_gsub {t : TSet} (h : ta σ H fun o H1 => tb σ H1 fun i H2 => t o i v H2 fun H3 => QS σ H3) : gSub ta tb t v σ H QS := h
theorem r_setl {k : Int} {n : Nat} {R : Hp → Prop} (h1 : H p = some (.lst xs)) (h2 : ixN xs.length k = some n) (q : R (upd H p (.lst (xs.set n v)))) : rSetL (.ref p) (.int k) v H R := ⟨p, xs, k, n, rfl, rfl, h1, h2, q⟩
theorem r_var {n : Nat} (h : σ[n]? = some (some v)) (q : Q v H) : tVar n σ H Q := ⟨v, h, q⟩
theorem r_c (q : Q v H) : tC v σ H Q := q
theorem r_op {r : R2} (h : ta σ H fun x H1 => tb σ H1 fun y H2 => r x y H2 Q) : tOp r ta tb σ H Q := h
theorem r_un {r : V → Hp → VK → Prop} (h : ta σ H fun x H1 => r x H1 Q) : tUn r ta σ H Q := h
theorem r_rI {C : Int → Int → Prop} {g : Int → Int → V} (hc : C i j) (q : Q (g i j) H) : rI C g (.int i) (.int j) H Q := ⟨i, j, rfl, rfl, hc, q⟩
theorem r_mod (hc : 0 < j) (q : ∀ z : Int, z = i % j → 0 ≤ z → z < j → Q (.int z) H) : rI (fun _ j => 0 < j) (fun i j => .int (i % j)) (.int i) (.int j) H Q :=
  ⟨i, j, rfl, rfl, hc, q _ rfl (Int.emod_nonneg i (by omega)) (Int.emod_lt_of_pos i hc)⟩
theorem r_rI0 {g : Int → Int → V} (q : Q (g i j) H) : rI0 g (.int i) (.int j) H Q := ⟨i, j, rfl, rfl, q⟩
theorem r_rU {g : Int → V} (q : Q (g i) H) : rU g (.int i) H Q := ⟨i, rfl, q⟩
theorem r_eq (hs : scal x y = true) (q : Q (.bl (decide (x = y))) H) : rEq x y H Q := ⟨hs, q⟩
theorem r_ne (hs : scal x y = true) (q : Q (.bl (!decide (x = y))) H) : rNe x y H Q := ⟨hs, q⟩
theorem r_eqi (q : Q (.bl (decide (i = j))) H) : rEq (.int i) (.int j) H Q := ⟨rfl, by
  rw [show decide (V.int i = V.int j) = decide (i = j) from by by_cases e : i = j <;> simp [e]]; exact q⟩
theorem r_nei (q : Q (.bl (!decide (i = j))) H) : rNe (.int i) (.int j) H Q := ⟨rfl, by
  rw [show decide (V.int i = V.int j) = decide (i = j) from by by_cases e : i = j <;> simp [e]]; exact q⟩
theorem r_eqs {s t : Str} (q : Q (.bl (decide (s = t))) H) : rEq (.str s) (.str t) H Q := ⟨rfl, by
  rw [show decide (V.str s = V.str t) = decide (s = t) from by by_cases e : s = t <;> simp [e]]; exact q⟩
theorem r_nes {s t : Str} (q : Q (.bl (!decide (s = t))) H) : rNe (.str s) (.str t) H Q := ⟨rfl, by
  rw [show decide (V.str s = V.str t) = decide (s = t) from by by_cases e : s = t <;> simp [e]]; exact q⟩
theorem r_adds {s t : Str} (hz : s.length + t.length ≤ 1000000) (q : Q (.str (s ++ t)) H) : (fun (x y : V) (H : Hp) (Q : VK) => ∃ i j, x = .str i ∧ y = .str j ∧ i.length + j.length ≤ sizeLine ∧ Q (.str (i ++ j)) H) (.str s) (.str t) H Q := ⟨s, t, rfl, rfl, by rw [sz]; omega, q⟩
theorem r_nonR {A B : Prop} (h : A) : if (!decide (V.ref a = V.non)) = true then A else B := iteT' h
theorem r_nonN {A B : Prop} (h : B) : if (!decide (V.non = V.non)) = true then A else B := iteF' h
theorem r_isR {A B : Prop} (h : B) : if decide (V.ref a = V.non) = true then A else B := iteF' h
theorem r_isNN {A B : Prop} (h : A) : if decide (V.non = V.non) = true then A else B := iteT' h
theorem r_nonI {A B : Prop} (h : A) : if (!decide (V.int i = V.non)) = true then A else B := iteT' h
theorem r_isI {A B : Prop} (h : B) : if decide (V.int i = V.non) = true then A else B := iteF' h
theorem r_eqb {a b : Bool} (q : Q (.bl (decide (a = b))) H) : rEq (.bl a) (.bl b) H Q := ⟨rfl, by
  rw [show decide (V.bl a = V.bl b) = decide (a = b) from by by_cases e : a = b <;> simp [e]]; exact q⟩
theorem r_isS {A B : Prop} {z : Str} (h : B) : if decide (V.str z = V.non) = true then A else B := iteF' h
theorem r_nonS {A B : Prop} {z : Str} (h : A) : if (!decide (V.str z = V.non)) = true then A else B := iteT' h
theorem r_nil (q : QA [] H) : tNil σ H QA := q
theorem r_cons {tr : TA} (h : ta σ H fun x H1 => tr σ H1 fun xs H2 => QA (x :: xs) H2) : tCons ta tr σ H QA := h
theorem r_cb {r : List V → Hp → VK → Prop} {t : TA} (h : t σ H fun vs H1 => r vs H1 Q) : tCB r t σ H Q := h
theorem r_call {sp : Sp} {dvs : List V} {E : XK} {t : TA} (h : t σ H fun vs H1 => sp (vs ++ dvs) H1 Q E) : tCall sp dvs E t σ H Q := h
theorem r_make {C : Addr} {sp : Sp} {dvs : List V} {E : XK} {t : TA} (h : t σ H fun vs H1 => ∀ x dx, H1 x = none → H1 dx = none → dx ≠ x →
  sp (.ref x :: (vs ++ dvs)) (upd (upd H1 dx (.own x)) x (.ins C dx [])) (fun v H2 => v = .non ∧ Q (.ref x) H2) E) : tMake C sp dvs E t σ H Q := h
theorem r_meth {C : Addr} {m : Str} {sp : Sp} {dvs : List V} {E : XK} {t : TA} (h : ta σ H (kMeth C m sp dvs E σ t Q)) : tMeth C m sp dvs E ta t σ H Q := h
theorem r_methL {C : Addr} {dx : Addr} {fs : List (Str × V)} {m : Str} {sp : Sp} {dvs : List V} {E : XK} {t : TA} (h : H a = some (.ins C dx fs)) (hl : fs.lookup m = none) (q : t σ H fun vs H2 => sp (.ref a :: (vs ++ dvs)) H2 Q E) : kMeth C m sp dvs E σ t Q (.ref a) H := ⟨a, dx, fs, rfl, h, hl, q⟩
theorem r_fld {f : Str} (h : ta σ H (kFld K f Q)) : tFld K ta f σ H Q := h
theorem r_fldL {C dx : Addr} {fs : List (Str × V)} {f : Str} (h : H a = some (.ins C dx fs)) (hc : Cls K C) (hn : NoAttr K C f) (hl : fs.lookup f = some v) (q : Q v H) : kFld K f Q (.ref a) H := ⟨a, C, dx, fs, v, rfl, h, hc, hn, hl, q⟩
theorem r_sfld {f : Str} (h : tb σ H fun y H1 => ta σ H1 (kSfld K D σ f y)) : sFld K ta tb f D σ H := h
theorem r_test (h : te σ H (kTest QB)) : tTest te σ H QB := h
theorem r_tB (h : te σ H (kTest QB)) : tB te σ H QB := h
theorem r_exb (q : QB b H) : kTest QB (.bl b) H := ⟨b, rfl, q⟩
theorem r_and (h : ct σ H fun c H1 => if c = true then cu σ H1 QB else QB false H1) : tAnd ct cu σ H QB := h
theorem r_or (h : ct σ H fun c H1 => if c = true then QB true H1 else cu σ H1 QB) : tOr ct cu σ H QB := h
theorem r_not (h : ct σ H fun c H1 => QB (!c) H1) : tNot ct σ H QB := h
theorem r_andV (h : ta σ H fun x H1 => ∃ c, x = .bl c ∧ if c = true then tb σ H1 Q else Q (.bl false) H1) : tAndV ta tb σ H Q := h
theorem r_orV (h : ta σ H fun x H1 => ∃ c, x = .bl c ∧ if c = true then Q (.bl true) H1 else tb σ H1 Q) : tOrV ta tb σ H Q := h
theorem r_exbP {A : Bool → Prop} (q : A b) : ∃ c, V.bl b = .bl c ∧ A c := ⟨b, rfl, q⟩
theorem r_notV (h : ta σ H fun x H1 => ∃ c, x = .bl c ∧ Q (.bl (!c)) H1) : tNotV ta σ H Q := h
theorem r_tif (h : c σ H fun b H1 => if b = true then ta σ H1 Q else tb σ H1 Q) : tIf c ta tb σ H Q := h
theorem r_isN (h : ta σ H fun x H1 => Q (.bl (decide (x = .non))) H1) : tIsN ta σ H Q := h
theorem r_notN (h : ta σ H fun x H1 => Q (.bl (!decide (x = .non))) H1) : tNotN ta σ H Q := h
theorem r_tup {t : TA} (h : t σ H (kTup Q)) : tTup t σ H Q := h
theorem r_lst {t : TA} (h : t σ H (kLst Q)) : tLst t σ H Q := h
theorem r_ktup (hl : xs.length ≤ sizeLine) (h : ∀ p, H p = none → Q (.ref p) (upd H p (.tup xs))) : kTup Q xs H := ⟨hl, h⟩
theorem r_klst (hl : xs.length ≤ sizeLine) (h : ∀ p, H p = none → Q (.ref p) (upd H p (.lst xs))) : kLst Q xs H := ⟨hl, h⟩
theorem r_ixl (h : SqL K H p xs) (e : atI xs i = some v) (q : Q v H) : rIxL K (.ref p) (.int i) H Q := ⟨p, xs, i, v, rfl, rfl, h, e, q⟩
theorem r_ixt (h : SqT K H p xs) (e : atI xs i = some v) (q : Q v H) : rIxT K (.ref p) (.int i) H Q := ⟨p, xs, i, v, rfl, rfl, h, e, q⟩
theorem r_int (q : Q (.int i) H) : rInt [V.int i] H Q := .inl ⟨i, rfl, q⟩
theorem r_lenl (h : SqL K H p xs) (q : Q (.int xs.length) H) : rLen K [V.ref p] H Q := ⟨p, xs, rfl, .inl h, q⟩
theorem r_lent (h : SqT K H p xs) (q : Q (.int xs.length) H) : rLen K [V.ref p] H Q := ⟨p, xs, rfl, .inr h, q⟩
theorem r_listl (h : SqL K H p xs) (q : ∀ l, H l = none → Q (.ref l) (upd H l (.lst xs))) : rListOf K [V.ref p] H Q := ⟨p, xs, rfl, .inl h, q⟩
theorem r_listt (h : SqT K H p xs) (q : ∀ l, H l = none → Q (.ref l) (upd H l (.lst xs))) : rListOf K [V.ref p] H Q := ⟨p, xs, rfl, .inr h, q⟩
theorem r_tupl (h : SqL K H p xs) (q : ∀ l, H l = none → Q (.ref l) (upd H l (.tup xs))) : rTupOf K [V.ref p] H Q := ⟨p, xs, rfl, .inl ⟨h, q⟩⟩
theorem r_tupt (h : SqT K H p xs) (q : Q (.ref p) H) : rTupOf K [V.ref p] H Q := ⟨p, xs, rfl, .inr ⟨h, q⟩⟩
theorem r_in {neg : Bool} (h : SqL K H p xs ∨ SqT K H p xs) (fx : flatV x = true) (fs : xs.all flatV = true) (q : Q (.bl (if neg = true then !inV x xs else inV x xs)) H) : rIn K neg x (.ref p) H Q := ⟨p, xs, rfl, h, fx, fs, q⟩
theorem r_bm {T : String} {r : V → List V → Hp → VK → Prop} {t : TA} (h : ta σ H fun x H1 => tyV K T x H1 ∧ t σ H1 fun xs H2 => r x xs H2 Q) : tBM K T r ta t σ H Q := h
theorem r_bm0 {T : String} {r : V → List V → Hp → VK → Prop} (h : ta σ H fun x H1 => tyV K T x H1 ∧ r x [] H1 Q) : tBM0 K T r ta σ H Q := h
theorem r_tyl {A : Prop} (h : SqL K H l xs) (q : A) : tyV K "list" (.ref l) H ∧ A := ⟨.inl ⟨rfl, _, h⟩, q⟩
theorem r_app (h : H l = some (.lst xs)) (hl : xs.length < sizeLine) (q : Q .non (upd H l (.lst (xs ++ [v])))) : rAppend (.ref l) [v] H Q := ⟨l, xs, v, rfl, rfl, h, hl, q⟩
theorem r_isi {c : V} {t u : Value} (hc : ClsV c u) (ht : TyX K H x t) (hk : PySem.W.kitOne K t u = some b) (q : Q (.bl b) H) : rIsi K [x, c] H Q := ⟨x, c, t, u, b, rfl, hc, ht, hk, q⟩
theorem r_isb {a b : Bool} (q : Q (.bl (decide (a = b))) H) : rIsB (.bl a) (.bl b) H Q := ⟨a, b, rfl, rfl, q⟩
theorem r_notb {a b : Bool} (q : Q (.bl (!decide (a = b))) H) : rNotB (.bl a) (.bl b) H Q := ⟨a, b, rfl, rfl, q⟩
theorem r_eqd {d e : PyData} (h1 : Dp K H x d) (h2 : Dp K H y e) (s1 : SeqAt.shaped d = true) (s2 : SeqAt.shaped e = true) (q : Q (.bl (PyData.eqv d e)) H) : rEqD K x y H Q := ⟨d, e, h1, h2, s1, s2, q⟩
theorem r_ned {d e : PyData} (h1 : Dp K H x d) (h2 : Dp K H y e) (s1 : SeqAt.shaped d = true) (s2 : SeqAt.shaped e = true) (q : Q (.bl (!PyData.eqv d e)) H) : rNeD K x y H Q := ⟨d, e, h1, h2, s1, s2, q⟩
theorem r_rep {k : Int} (h : H l = some (.lst xs)) (h1 : -(2 ^ 63) ≤ k) (h2 : k < 2 ^ 63) (hz : xs.length * k.toNat ≤ sizeLine) (q : ∀ p, H p = none → Q (.ref p) (upd H p (.lst (List.replicate k.toNat xs).flatten))) : rRep (.ref l) (.int k) H Q := ⟨l, k, xs, rfl, rfl, h, h1, h2, hz, q⟩
theorem r_rep1 {k : Int} (h : H l = some (.lst [v])) (h1 : -1000000 ≤ k) (h2 : k ≤ 1000000) (q : ∀ p, H p = none → Q (.ref p) (upd H p (.lst (List.replicate k.toNat v)))) : rRep (.ref l) (.int k) H Q := ⟨l, k, [v], rfl, rfl, h, by omega, by omega, by rw [sz]; show 1 * _ ≤ _; omega, by
  rw [show (List.replicate k.toNat [v]).flatten = List.replicate k.toNat v from by
    generalize k.toNat = n
    induction n with
    | zero => rfl
    | succ n ih => rw [List.replicate_succ, List.flatten_cons, ih, List.replicate_succ]; rfl]
  exact q⟩
theorem r_cat (h : H l = some (.lst xs)) (h' : H p = some (.lst ys)) (hz : xs.length + ys.length ≤ sizeLine) (q : ∀ r, H r = none → Q (.ref r) (upd H r (.lst (xs ++ ys)))) : rCat (.ref l) (.ref p) H Q := ⟨l, p, xs, ys, rfl, rfl, h, h', hz, q⟩
theorem r_aug {n : Nat} {ti : TIp} (h : σ[n]? = some (some x)) (q : te σ H fun y H1 => ti x y H1 fun z H2 => D.nx (σ.set n (some z)) H2) : tAug n te ti D σ H := ⟨x, h, q⟩
theorem r_ipI {f : Int → Int → Int} (q : Q (.int (f i j)) H) : ipI f (.int i) (.int j) H Q := ⟨i, j, rfl, rfl, q⟩
theorem r_sorted {ns : List Int} (h : SqL K H a (ns.map V.int)) (h64 : ns.length < 64) (q : ∀ (ns' : List Int) (p : Addr), ns'.Perm ns → ns'.Pairwise (· ≤ ·) → H p = none → Q (.ref p) (upd H p (.lst (ns'.map V.int)))) : rSorted K [.ref a] H Q := ⟨a, ns, rfl, h, h64, q⟩
end
/-! slices, texts -/
def kPart (Q : Option Int → Hp → Prop) : V → Hp → Prop := fun x H => ∃ i, x = .int i ∧ Q (some i) H
section
variable {σ : L2.St} {H : Hp} {te : TE} {tl th : TO} {Q : V → Hp → Prop} {QO : Option Int → Hp → Prop} {K : PySem.W.Frag} {a : Addr} {xs : List V} {lo hi : Option Int} {i : Int} {z : Str}
theorem r_sl {r : V → Option Int → Option Int → Hp → VK → Prop} (h : te σ H fun x H1 => tl σ H1 fun l H2 => th σ H2 fun u H3 => r x l u H3 Q) : tSl r te tl th σ H Q := h
theorem r_noP (q : QO none H) : tNoPart σ H QO := q
theorem r_part (h : te σ H (kPart QO)) : tPart te σ H QO := h
theorem r_kPart (q : QO (some i) H) : kPart QO (.int i) H := ⟨i, rfl, q⟩
theorem r_slS (hl : z.length ≤ 1000000) (q : Q (.str (cutS z lo hi)) H) : rSlS (.str z) lo hi H Q := ⟨z, rfl, by rw [sz]; omega, q⟩
theorem r_slL (h : SqL K H a xs) (q : ∀ p, H p = none → Q (.ref p) (upd H p (.lst (cutV xs lo hi)))) : rSlL K (.ref a) lo hi H Q := ⟨a, xs, rfl, h, q⟩
end
/-! loops and comprehensions -/
def kLc (g : TG) (tt : TT) (te : TE) (vs : List Nat) (σ : L2.St) (Q : V → Hp → Prop) : It → Hp → Prop := fun J H1 => ∀ D, H1 D = none → ∃ W : Nat → Nat → Hp → Prop, (∃ m, W 0 m (upd H1 D (.lst []))) ∧ ∀ i m H, W i m H →
  (J.stop i H ∧ Q (.ref D) H) ∨ (J.go i H ∧ ∃ Nx : Hp → Prop, (∀ H', Nx H' → ∃ m', m' < m ∧ W (i + 1) m' H') ∧ ∀ x H', J.yld i H x H' → g x (wipe σ vs) H' fun σ2 H2 => wipe σ2 vs = wipe σ vs ∧ tt σ2 H2 fun b H3 =>
    if b = true then te σ2 H3 fun y H4 => ∃ acc, H4 D = some (.lst acc) ∧ acc.length < sizeLine ∧ Nx (upd H4 D (.lst (acc ++ [y]))) else Nx H3)
def kR1 (R : It → Hp → Prop) : List V → Hp → Prop := fun vs H1 => ∃ j : Int, vs = [.int j] ∧ -(2 ^ 62) ≤ j ∧ j < 2 ^ 62 ∧ R (Itr 0 j.toNat) H1
def kR2 (R : It → Hp → Prop) : List V → Hp → Prop := fun vs H1 => ∃ i j : Int, vs = [.int i, .int j] ∧ (-(2 ^ 62) ≤ i ∧ i < 2 ^ 62 ∧ -(2 ^ 62) ≤ j ∧ j < 2 ^ 62) ∧ R (Itr i (j - i).toNat) H1
def kIl (K : PySem.W.Frag) (R : It → Hp → Prop) : V → Hp → Prop := fun x H1 => ∃ a, x = .ref a ∧ (∃ xs, SqL K H1 a xs) ∧ R (Itl K a) H1
def kIt (K : PySem.W.Frag) (R : It → Hp → Prop) : V → Hp → Prop := fun x H1 => ∃ a, x = .ref a ∧ (∃ xs, SqT K H1 a xs) ∧ R (Itt K a) H1
def kFor (g : TG) (tb : TS) (D : Ends) (σ : L2.St) : It → Hp → Prop := fun J H1 => ∃ W : Nat → Nat → L2.St → Hp → Prop, (∃ m, W 0 m σ H1) ∧ ∀ i m σ H, W i m σ H →
  (J.stop i H ∧ D.nx σ H) ∨ (J.go i H ∧ ∃ N : L2.St → Hp → Prop, (∀ σ' H', N σ' H' → ∃ m', m' < m ∧ W (i + 1) m' σ' H') ∧ ∀ x H', J.yld i H x H' → g x σ H' fun σ2 H2 => tb { D with nx := N, ct := N, bk := D.nx } σ2 H2)
section
variable {σ : L2.St} {H : Hp} {D : Ends} {te : TE} {ta : TA} {g : TG} {tt : TT} {tb : TS} {wi : TI} {vs : List Nat} {Q : V → Hp → Prop} {R : It → Hp → Prop} {K : PySem.W.Frag} {a : Addr} {xs : List V} {i j : Int}
theorem r_lc (h : wi σ H (kLc g tt te vs σ Q)) : tLc wi g tt te vs σ H Q := h
theorem r_for (h : wi σ H (kFor g tb D σ)) : tFor wi g tb D σ H := h
theorem r_irng1 (h : ta σ H (kR1 R)) : iRng1 ta σ H R := h
theorem r_irng2 (h : ta σ H (kR2 R)) : iRng2 ta σ H R := h
theorem r_ilist (h : te σ H (kIl K R)) : iList K te σ H R := h
theorem r_itup (h : te σ H (kIt K R)) : iTup K te σ H R := h
theorem r_kR1 (h1 : -(2 ^ 62) ≤ j) (h2 : j < 2 ^ 62) (h : R (Itr 0 j.toNat) H) : kR1 R [.int j] H := ⟨j, rfl, h1, h2, h⟩
theorem r_kR2 (h1 : -(2 ^ 62) ≤ i ∧ i < 2 ^ 62 ∧ -(2 ^ 62) ≤ j ∧ j < 2 ^ 62) (h : R (Itr i (j - i).toNat) H) : kR2 R [.int i, .int j] H := ⟨i, j, rfl, h1, h⟩
theorem r_kIl (h1 : SqL K H a xs) (h : R (Itl K a) H) : kIl K R (.ref a) H := ⟨a, rfl, ⟨_, h1⟩, h⟩
theorem r_kIt (h1 : SqT K H a xs) (h : R (Itt K a) H) : kIt K R (.ref a) H := ⟨a, rfl, ⟨_, h1⟩, h⟩
theorem r_forR {lo : Int} {n : Nat} (Pv : Nat → L2.St → Hp → Prop) (h0 : Pv 0 σ H)
    (hs : ∀ i σ H, i < n → Pv i σ H → g (.int (lo + i)) σ H fun σ2 H2 => tb { D with nx := Pv (i + 1), ct := Pv (i + 1), bk := D.nx } σ2 H2) (hd : ∀ σ H, Pv n σ H → D.nx σ H) : kFor g tb D σ (Itr lo n) H := for_range Pv h0 hs hd
theorem r_forL (Pv : Nat → L2.St → Hp → Prop) (h0 : Pv 0 σ H) (hl : ∀ i σ H, i ≤ xs.length → Pv i σ H → SqL K H a xs)
    (hs : ∀ i x σ H, xs[i]? = some x → Pv i σ H → g x σ H fun σ2 H2 => tb { D with nx := Pv (i + 1), ct := Pv (i + 1), bk := D.nx } σ2 H2) (hd : ∀ σ H, Pv xs.length σ H → D.nx σ H) : kFor g tb D σ (Itl K a) H := for_list Pv h0 hl hs hd
theorem r_forT (Pv : Nat → L2.St → Hp → Prop) (h0 : Pv 0 σ H) (hl : ∀ i σ H, i ≤ xs.length → Pv i σ H → SqT K H a xs)
    (hs : ∀ i x σ H, xs[i]? = some x → Pv i σ H → g x σ H fun σ2 H2 => tb { D with nx := Pv (i + 1), ct := Pv (i + 1), bk := D.nx } σ2 H2) (hd : ∀ σ H, Pv xs.length σ H → D.nx σ H) : kFor g tb D σ (Itt K a) H := for_tup Pv h0 hl hs hd
/-- [e for x in range], e an int -/
theorem r_lcI {lo : Int} {n slot : Nat} (P : Nat → Int → Prop) (hn : n ≤ 100000) (hv : vs = [slot])
    (hs : ∀ (i : Nat) (H' : Hp), i < n → L2.Same H H' → ∀ R : V → Hp → Prop, (∀ z : Int, P i z → R (.int z) H') → te ((wipe σ vs).set slot (some (.int (lo + i)))) H' R)
    (q : ∀ (H' : Hp) (l : Addr) (zs : List Int), L2.Same H H' → H l = none → H' l = some (.lst (zs.map V.int)) → zs.length = n → (∀ (i : Nat) (z : Int), zs[i]? = some z → P i z) → Q (.ref l) H') :
    kLc (gName slot) tYes te vs σ Q (Itr lo n) H := by
  intro L hL
  have hw : ∀ (τ : L2.St) (x : V), wipe (τ.set slot (some x)) [slot] = wipe τ [slot] := fun τ x => by simp [wipe, List.set_set]
  have hw2 : wipe (wipe σ vs) vs = wipe σ vs := by subst hv; simp [wipe, List.set_set]
  refine lc_range (fun i H' => ∃ zs : List Int, zs.length = i ∧ H' L = some (.lst (zs.map V.int)) ∧ L2.Same H H' ∧ ∀ (k : Nat) (z : Int), zs[k]? = some z → P k z) ⟨[], rfl, upd_same, fun b o e => by rw [upd_ne (ne_of_none e hL)]; exact e, fun k z e => by simp at e⟩ ?_ ?_
  · rintro i H' hi ⟨zs, el, eL, s, hp⟩
    refine ⟨?_, ?_⟩
    · subst hv
      rw [hw]
      exact hw2
    · show te ((wipe σ vs).set slot (some (.int (lo + i)))) H' _
      refine hs i H' hi s _ fun z hz => ⟨_, eL, ?_, zs ++ [z], ?_, ?_, ?_, ?_⟩
      · rw [List.length_map, el]
        exact Nat.lt_of_lt_of_le (Nat.lt_of_lt_of_le hi hn) (by decide)
      · rw [List.length_append, el]; rfl
      · rw [upd_same, List.map_append]; rfl
      · intro b o e
        rw [upd_ne (ne_of_none e hL)]
        exact s _ _ e
      · intro k y e
        rw [List.getElem?_append] at e
        split at e
        · exact hp k y e
        · rename_i hk
          have ek : k = zs.length := by
            have := (List.getElem?_eq_some_iff.mp e).1
            simp at this
            omega
          subst ek
          simp at e
          rw [el, ← e]
          exact hz
  · rintro H' ⟨zs, el, eL, s, hp⟩
    exact q H' L zs s hL eL el hp
end
/-! named readings for texts, the lesser and the greater of two -/
def rLenS : List V → Hp → VK → Prop := fun xs H Q => ∃ z, xs = [.str z] ∧ z.length ≤ sizeLine ∧ Q (.int z.length) H
theorem c_lenS {X : Cx} : CallR X (.builtin "len") rLenS := call_len_str
def rMin2 : List V → Hp → VK → Prop := fun xs H Q => ∃ i j, xs = [.int i, .int j] ∧ Q (.int (if j < i then j else i)) H
theorem c_min2 {X : Cx} (hc : X.calm = true) : CallR X (.builtin "min") rMin2 := call_min2 hc
def rMax2 : List V → Hp → VK → Prop := fun xs H Q => ∃ i j, xs = [.int i, .int j] ∧ Q (.int (if j > i then j else i)) H
theorem c_max2 {X : Cx} (hc : X.calm = true) : CallR X (.builtin "max") rMax2 := call_max2 hc
def rAddT : R2 := fun x y H Q => ∃ i j, x = .str i ∧ y = .str j ∧ i.length + j.length ≤ sizeLine ∧ Q (.str (i ++ j)) H
theorem op_addT {X : Cx} : OpR X (binaryOp .Add) rAddT := op_add_str
section
variable {H : Hp} {Q : V → Hp → Prop} {z y : Str} {i j : Int}
theorem r_lenS (hl : z.length ≤ 1000000) (q : Q (.int z.length) H) : rLenS [.str z] H Q := ⟨z, rfl, by rw [sz]; omega, q⟩
theorem r_min2 (q : ∀ m : Int, m ≤ i → m ≤ j → m = i ∨ m = j → Q (.int m) H) : rMin2 [.int i, .int j] H Q := ⟨i, j, rfl, by split <;> exact q _ (by omega) (by omega) (by omega)⟩
theorem r_max2 (q : ∀ m : Int, i ≤ m → j ≤ m → m = i ∨ m = j → Q (.int m) H) : rMax2 [.int i, .int j] H Q := ⟨i, j, rfl, by split <;> exact q _ (by omega) (by omega) (by omega)⟩
theorem r_addT (hl : z.length + y.length ≤ 1000000) (q : Q (.str (z ++ y)) H) : rAddT (.str z) (.str y) H Q := ⟨z, y, rfl, rfl, by rw [sz]; omega, q⟩
end
def kIstr (R : It → Hp → Prop) : V → Hp → Prop := fun x H1 => ∃ z, x = .str z ∧ R (Its z) H1
theorem r_istr {te : TE} {σ : L2.St} {H : Hp} {R : It → Hp → Prop} (h : te σ H (kIstr R)) : iStr te σ H R := h
theorem r_kIs {z : Str} {H : Hp} {R : It → Hp → Prop} (h : R (Its z) H) : kIstr R (.str z) H := ⟨z, rfl, h⟩
end Sg
/-! data behind values, as the heap grows -/
namespace Sg
open PySem L2
mutual
theorem Dp.mono {K : PySem.W.Frag} {H H' : Hp} (s : L2.Same H H') : ∀ (d : PyData) (v : V), Dp K H v d → Dp K H' v d
  | .none, _, h => by cases h; exact .non
  | .bool b, _, h => by cases h; exact .bl b
  | .int i, _, h => by cases h; exact .int i
  | .str x, _, h => by cases h; exact .str x
  | .list ds, _, h => by
    cases h with
    | lst hs ha => exact .lst (L2.Same.seq s hs) (DpAll.mono s ds _ ha)
  | .tuple ds, _, h => by
    cases h with
    | tup hs ha => exact .tup (Sg.Same.tup s hs) (DpAll.mono s ds _ ha)
  | .dict _, _, h => by cases h
theorem DpAll.mono {K : PySem.W.Frag} {H H' : Hp} (s : L2.Same H H') : ∀ (ds : List PyData) (vs : List V), DpAll K H vs ds → DpAll K H' vs ds
  | [], _, h => by cases h; exact .nil
  | d :: ds, _, h => by
    cases h with
    | cons h1 h2 => exact .cons (Dp.mono s d _ h1) (DpAll.mono s ds _ h2)
end
theorem DpAll.ints {K : PySem.W.Frag} {H : Hp} : ∀ ns : List Int, DpAll K H (ns.map V.int) (ns.map PyData.int)
  | [] => .nil
  | n :: ns => .cons (.int n) (DpAll.ints ns)
theorem DpAll.at {K : PySem.W.Frag} {H : Hp} : ∀ {vs : List V} {ds : List PyData}, DpAll K H vs ds → ∀ (i : Nat) (v : V), vs[i]? = some v → ∃ d, ds[i]? = some d ∧ Dp K H v d
  | _, _, .nil, i, v, e => by simp at e
  | _, _, .cons h t, 0, v, e => by simp at e; subst e; exact ⟨_, rfl, h⟩
  | _, _, .cons h t, i + 1, v, e => by
    obtain ⟨d, e1, h1⟩ := DpAll.at t i v (by simpa using e)
    exact ⟨d, by simpa using e1, h1⟩
theorem DpAll.length {K : PySem.W.Frag} {H : Hp} : ∀ {vs : List V} {ds : List PyData}, DpAll K H vs ds → vs.length = ds.length
  | _, _, .nil => rfl
  | _, _, .cons _ t => by simp [DpAll.length t]
/-- data that can be compared, at most n deep -/
def Fl (n : Nat) (d : PyData) : Prop := d.canLay0 = true ∧ d.depth ≤ n
theorem Fl.int (i : Int) (n : Nat) : Fl n (.int i) := ⟨by simp [PyData.canLay0], by simp [PyData.depth]⟩
theorem Fl.non (n : Nat) : Fl n .none := ⟨by simp [PyData.canLay0], by simp [PyData.depth]⟩
theorem Fl.bool (b : Bool) (n : Nat) : Fl n (.bool b) := ⟨by simp [PyData.canLay0], by simp [PyData.depth]⟩
theorem Fl.all {n : Nat} : ∀ {ds : List PyData}, (∀ d ∈ ds, Fl n d) → PyData.canLayAll0 ds = true ∧ PyData.depthAll ds ≤ n
  | [], _ => ⟨by simp [PyData.canLayAll0], by simp [PyData.depthAll]⟩
  | d :: ds, h => by
    obtain ⟨h1, h2⟩ := h d List.mem_cons_self
    obtain ⟨h3, h4⟩ := Fl.all (ds := ds) fun x hx => h x (List.mem_cons_of_mem _ hx)
    refine ⟨by simp [PyData.canLayAll0, h1, h3], ?_⟩
    simp only [PyData.depthAll]
    exact Nat.max_le.mpr ⟨h2, h4⟩
theorem Fl.tup {n : Nat} {ds : List PyData} (h : ∀ d ∈ ds, Fl n d) : Fl (n + 1) (.tuple ds) := by
  obtain ⟨h1, h2⟩ := Fl.all h
  exact ⟨by simp [PyData.canLay0, h1], by simp only [PyData.depth]; omega⟩
theorem Fl.lst {n : Nat} {ds : List PyData} (h : ∀ d ∈ ds, Fl n d) : Fl (n + 1) (.list ds) := by
  obtain ⟨h1, h2⟩ := Fl.all h
  exact ⟨by simp [PyData.canLay0, h1], by simp only [PyData.depth]; omega⟩
theorem Fl.mono {n m : Nat} {d : PyData} (h : Fl n d) (hm : n ≤ m) : Fl m d := ⟨h.1, Nat.le_trans h.2 hm⟩
theorem Fl.ints (ns : List Int) : Fl 1 (.tuple (ns.map PyData.int)) := Fl.tup fun d hd => by
  obtain ⟨i, _, rfl⟩ := List.mem_map.mp hd
  exact Fl.int i 0
theorem Fl.intl (ns : List Int) : Fl 1 (.list (ns.map PyData.int)) := Fl.lst fun d hd => by
  obtain ⟨i, _, rfl⟩ := List.mem_map.mp hd
  exact Fl.int i 0
theorem Fl.nil {n : Nat} : ∀ d ∈ ([] : List PyData), Fl n d := fun d h => by cases h
theorem Fl.cons {n : Nat} {d : PyData} {ds : List PyData} (h : Fl n d) (t : ∀ x ∈ ds, Fl n x) : ∀ x ∈ d :: ds, Fl n x := fun x hx => by
  rcases List.mem_cons.mp hx with rfl | hx
  · exact h
  · exact t x hx
theorem Fl.mapi {n : Nat} {ns : List Int} : ∀ d ∈ ns.map PyData.int, Fl n d := fun d hd => by
  obtain ⟨i, _, rfl⟩ := List.mem_map.mp hd
  exact Fl.int i n
theorem Fl.shaped {n : Nat} {d : PyData} (h : Fl n d) (hn : n ≤ 64 := by decide) : SeqAt.shaped d = true := by
  unfold SeqAt.shaped
  rw [h.1, decide_eq_true (Nat.le_trans h.2 hn)]
  rfl
theorem Fl.self {n : Nat} {d : PyData} (h : Fl n d) : PyData.eqv d d = true := SeqAt.eqv_refl d h.1
/-! lists of ints -/
theorem ixN_ok {n : Nat} {k : Int} (h0 : 0 ≤ k) (h1 : k < n) : ixN n k = some k.toNat := by unfold ixN; rw [if_pos h0, if_pos h1]
theorem at_ints {ts : List Int} {k : Int} (h0 : 0 ≤ k) (h1 : k < ts.length) : atI (ts.map V.int) k = some (.int (ts.getD k.toNat 0)) := by
  obtain ⟨n, rfl⟩ := Int.eq_ofNat_of_zero_le h0
  have hn : n < ts.length := by omega
  refine atI_nat ?_
  rw [List.getElem?_map, List.getElem?_eq_getElem hn, List.getD_eq_getElem?_getD, Int.toNat_natCast, List.getElem?_eq_getElem hn]
  rfl
theorem rep_ints (n : Nat) (z : Int) : (List.replicate n [V.int z]).flatten = (List.replicate n z).map V.int := by
  induction n with
  | zero => rfl
  | succ n ih => rw [List.replicate_succ, List.flatten_cons, ih, List.replicate_succ, List.map_cons]; rfl
theorem set_ints (ts : List Int) (n : Nat) (z : Int) : (ts.map V.int).set n (.int z) = (ts.set n z).map V.int := by rw [List.map_set]
theorem eqv_ints {as bs : List Int} : PyData.eqv (.list (as.map PyData.int)) (.list (bs.map PyData.int)) = decide (as = bs) := by
  rw [PyData.eqv]
  induction as generalizing bs with
  | nil => cases bs <;> simp [PyData.eqvAll]
  | cons a as ih =>
    cases bs with
    | nil => simp [PyData.eqvAll]
    | cons b bs =>
      rw [List.map_cons, List.map_cons, PyData.eqvAll, ih, PyData.eqv]
      by_cases e : a = b
      · subst e; simp
      · simp [e]
theorem Dp.ints {K : PySem.W.Frag} {H : Hp} {a : Addr} {ns : List Int} (h : SqL K H a (ns.map V.int)) : Dp K H (.ref a) (.list (ns.map PyData.int)) := .lst h (DpAll.ints ns)
theorem Fl.intlS (ns : List Int) : SeqAt.shaped (.list (ns.map PyData.int)) = true := (Fl.intl ns).shaped
/-! a comprehension over a list, its items anything -/
/-- the heap without the list that grows -/
def hid (D : Addr) (H : Hp) : Hp := fun b => if b = D then none else H b
theorem hid_ne {D b : Addr} {H : Hp} (h : b ≠ D) : hid D H b = H b := by unfold hid; rw [if_neg h]
theorem hid_at {D : Addr} {H : Hp} : hid D H D = none := by unfold hid; rw [if_pos rfl]
theorem hid_same {D : Addr} {H : Hp} : L2.Same (hid D H) H := fun b o e => by
  by_cases hb : b = D
  · rw [hb, hid_at] at e; cases e
  · rw [hid_ne hb] at e; exact e
theorem of_hid {D b : Addr} {H : Hp} {o : HO} (e : hid D H b = some o) : b ≠ D ∧ H b = some o := by
  by_cases hb : b = D
  · rw [hb, hid_at] at e; cases e
  · rw [hid_ne hb] at e; exact ⟨hb, e⟩
theorem same_hid {D : Addr} {H H' : Hp} (s : L2.Same H H') (n : H D = none) : L2.Same H (hid D H') := fun b o e => by
  rw [hid_ne (ne_of_none e n)]; exact s _ _ e
theorem hid_upd {D : Addr} {H : Hp} {o : HO} : hid D (upd H D o) = hid D H := by
  funext b
  by_cases hb : b = D
  · rw [hb, hid_at, hid_at]
  · rw [hid_ne hb, hid_ne hb, upd_ne hb]
theorem hid_none {D : Addr} {H : Hp} (n : H D = none) : hid D H = H := by
  funext b
  by_cases hb : b = D
  · rw [hb, hid_at, n]
  · rw [hid_ne hb]
theorem r_lcL {K : PySem.W.Frag} {a : Addr} {xs : List V} {slot : Nat} {vs : List Nat} {te : TE} {σ : L2.St} {H : Hp} {Q : V → Hp → Prop} (P : Nat → List V → Hp → Prop) (hx : SqL K H a xs) (hn : xs.length ≤ 100000) (hv : vs = [slot])
    (h0 : P 0 [] H)
    (hs : ∀ (i : Nat) (x : V) (acc : List V) (H0 H' : Hp), xs[i]? = some x → L2.Same H H0 → P i acc H0 → L2.Same H0 H' → ∀ R : V → Hp → Prop,
      (∀ (v : V) (H'' : Hp), L2.Same H' H'' → (∀ D, H0 D = none → H' D ≠ none → P (i + 1) (acc ++ [v]) (hid D H'')) → R v H'') → te ((wipe σ vs).set slot (some x)) H' R)
    (q : ∀ (H' : Hp) (l : Addr) (acc : List V), L2.Same H H' → H l = none → H' l = some (.lst acc) → acc.length = xs.length → P xs.length acc (hid l H') → Q (.ref l) H') :
    kLc (gName slot) tYes te vs σ Q (Itl K a) H := by
  intro L hL
  have hw : ∀ (τ : L2.St) (x : V), wipe (τ.set slot (some x)) [slot] = wipe τ [slot] := fun τ x => by simp [wipe, List.set_set]
  have hw2 : wipe (wipe σ vs) vs = wipe σ vs := by subst hv; simp [wipe, List.set_set]
  refine lc_list (xs := xs) (fun i H' => ∃ acc : List V, acc.length = i ∧ H' L = some (.lst acc) ∧ L2.Same H H' ∧ P i acc (hid L H')) ⟨[], rfl, upd_same, fun b o e => by rw [upd_ne (ne_of_none e hL)]; exact e, by rw [hid_upd, hid_none hL]; exact h0⟩ ?_ ?_ ?_
  · rintro i H' hi ⟨acc, _, _, s, _⟩
    exact s.seq hx
  · rintro i x H' hi ⟨acc, el, eL, s, hp⟩
    refine ⟨?_, ?_⟩
    · subst hv
      rw [hw]
      exact hw2
    · show te ((wipe σ vs).set slot (some x)) H' _
      refine hs i x acc (hid L H') H' hi (same_hid s hL) hp hid_same _ fun v H'' s2 hP => ⟨acc, s2 _ _ eL, ?_, acc ++ [v], ?_, upd_same, ?_, ?_⟩
      · have := (List.getElem?_eq_some_iff.mp hi).1
        rw [el, sz]
        omega
      · rw [List.length_append, el]; rfl
      · intro b o e
        rw [upd_ne (ne_of_none e hL)]
        exact s2 _ _ (s _ _ e)
      · rw [hid_upd]
        exact hP L hid_at (by rw [eL]; intro z; cases z)
  · rintro H' ⟨acc, el, eL, s, hp⟩
    exact q H' L acc s hL eL el hp
end Sg
namespace Sg
open PySem L2
def top (i : Nat) : Stmt := PySem.Challenge.pw_segmentfs_k48_superblock_as_octets.main.body.getD i (.Pass ⟨0, 0, 0, 0⟩)
abbrev s_number_octets : Stmt := top 1
abbrev s_number_of : Stmt := top 2
abbrev s_is_text : Stmt := top 8
abbrev s_octets_of : Stmt := top 9
abbrev s_text_of : Stmt := top 10
abbrev s_is_code : Stmt := top 11
abbrev s_filled : Stmt := top 13
abbrev s_pieces : Stmt := top 14
abbrev s_Superblock___init : Stmt := inClass (top 20) 0
abbrev s_is_snapshot_name : Stmt := top 21
abbrev s_encode_superblock : Stmt := top 22
abbrev s_decode_superblock : Stmt := top 23
abbrev s_slot_octets : Stmt := top 24
abbrev s_name_in : Stmt := top 25
abbrev s_Layout___init : Stmt := inClass (top 32) 0
abbrev s_parts_of : Stmt := top 33
abbrev s_law_row : Stmt := top 35
abbrev s_law_layout : Stmt := top 37
abbrev s_law_char : Stmt := top 38
abbrev s_law_text : Stmt := top 39
abbrev s_law_name : Stmt := top 40
abbrev s_law_slot : Stmt := top 41
abbrev s_law_octets : Stmt := top 42
abbrev s_law_good : Stmt := top 43
abbrev s_law_reads : Stmt := top 44
abbrev s_law_is : Stmt := top 45
abbrev s_law_texts : Stmt := top 46
abbrev s_law : Stmt := top 47
abbrev n_number_octets : List Str := ["number", "count", "place"]
theorem sc_number_octets : FnScope n_number_octets ["number", "count"] (defScope s_number_octets) := ⟨rfl, rfl, rfl, by decide +kernel, rfl, by decide +kernel, by decide +kernel⟩
abbrev n_number_of : List Str := ["octets", "number", "octet"]
theorem sc_number_of : FnScope n_number_of ["octets"] (defScope s_number_of) := ⟨rfl, rfl, rfl, by decide +kernel, rfl, by decide +kernel, by decide +kernel⟩
abbrev n_is_text : List Str := ["text", "sign"]
theorem sc_is_text : FnScope n_is_text ["text"] (defScope s_is_text) := ⟨rfl, rfl, rfl, by decide +kernel, rfl, by decide +kernel, by decide +kernel⟩
abbrev n_octets_of : List Str := ["text", "sign"]
theorem sc_octets_of : FnScope n_octets_of ["text"] (defScope s_octets_of) := ⟨rfl, rfl, rfl, by decide +kernel, rfl, by decide +kernel, by decide +kernel⟩
abbrev n_text_of : List Str := ["octets", "octet"]
theorem sc_text_of : FnScope n_text_of ["octets"] (defScope s_text_of) := ⟨rfl, rfl, rfl, by decide +kernel, rfl, by decide +kernel, by decide +kernel⟩
abbrev n_is_code : List Str := ["number"]
theorem sc_is_code : FnScope n_is_code ["number"] (defScope s_is_code) := ⟨rfl, rfl, rfl, by decide +kernel, rfl, by decide +kernel, by decide +kernel⟩
abbrev n_filled : List Str := ["numbers", "count"]
theorem sc_filled : FnScope n_filled ["numbers", "count"] (defScope s_filled) := ⟨rfl, rfl, rfl, by decide +kernel, rfl, by decide +kernel, by decide +kernel⟩
abbrev n_pieces : List Str := ["numbers", "size", "start"]
theorem sc_pieces : FnScope n_pieces ["numbers", "size"] (defScope s_pieces) := ⟨rfl, rfl, rfl, by decide +kernel, rfl, by decide +kernel, by decide +kernel⟩
abbrev n_Superblock___init : List Str := ["self", "size", "height", "root", "names"]
theorem sc_Superblock___init : FnScope n_Superblock___init ["self", "size", "height", "root", "names"] (defScope s_Superblock___init) := ⟨rfl, rfl, rfl, by decide +kernel, rfl, by decide +kernel, by decide +kernel⟩
abbrev n_is_snapshot_name : List Str := ["text"]
theorem sc_is_snapshot_name : FnScope n_is_snapshot_name ["text"] (defScope s_is_snapshot_name) := ⟨rfl, rfl, rfl, by decide +kernel, rfl, by decide +kernel, by decide +kernel⟩
abbrev n_encode_superblock : List Str := ["layout", "superblock", "octets", "name"]
theorem sc_encode_superblock : FnScope n_encode_superblock ["layout", "superblock"] (defScope s_encode_superblock) := ⟨rfl, rfl, rfl, by decide +kernel, rfl, by decide +kernel, by decide +kernel⟩
abbrev n_decode_superblock : List Str := ["octets", "names", "slot", "name"]
theorem sc_decode_superblock : FnScope n_decode_superblock ["octets"] (defScope s_decode_superblock) := ⟨rfl, rfl, rfl, by decide +kernel, rfl, by decide +kernel, by decide +kernel⟩
abbrev n_slot_octets : List Str := ["name"]
theorem sc_slot_octets : FnScope n_slot_octets ["name"] (defScope s_slot_octets) := ⟨rfl, rfl, rfl, by decide +kernel, rfl, by decide +kernel, by decide +kernel⟩
abbrev n_name_in : List Str := ["slot", "text"]
theorem sc_name_in : FnScope n_name_in ["slot"] (defScope s_name_in) := ⟨rfl, rfl, rfl, by decide +kernel, rfl, by decide +kernel, by decide +kernel⟩
abbrev n_Layout___init : List Str := ["self", "segments", "segment_blocks", "block_size"]
theorem sc_Layout___init : FnScope n_Layout___init ["self", "segments", "segment_blocks", "block_size"] (defScope s_Layout___init) := ⟨rfl, rfl, rfl, by decide +kernel, rfl, by decide +kernel, by decide +kernel⟩
abbrev n_parts_of : List Str := ["number", "size"]
theorem sc_parts_of : FnScope n_parts_of ["number", "size"] (defScope s_parts_of) := ⟨rfl, rfl, rfl, by decide +kernel, rfl, by decide +kernel, by decide +kernel⟩
abbrev n_law_row : List Str := ["script", "k", "cell", "low", "high"]
theorem sc_law_row : FnScope n_law_row ["script", "k"] (defScope s_law_row) := ⟨rfl, rfl, rfl, by decide +kernel, rfl, by decide +kernel, by decide +kernel⟩
abbrev n_law_layout : List Str := ["number", "menu", "sizes"]
theorem sc_law_layout : FnScope n_law_layout ["number"] (defScope s_law_layout) := ⟨rfl, rfl, rfl, by decide +kernel, rfl, by decide +kernel, by decide +kernel⟩
abbrev n_law_char : List Str := ["number", "chars"]
theorem sc_law_char : FnScope n_law_char ["number"] (defScope s_law_char) := ⟨rfl, rfl, rfl, by decide +kernel, rfl, by decide +kernel, by decide +kernel⟩
abbrev n_law_text : List Str := ["number", "count", "text", "k"]
theorem sc_law_text : FnScope n_law_text ["number", "count"] (defScope s_law_text) := ⟨rfl, rfl, rfl, by decide +kernel, rfl, by decide +kernel, by decide +kernel⟩
abbrev n_law_name : List Str := ["number", "text", "char"]
theorem sc_law_name : FnScope n_law_name ["number"] (defScope s_law_name) := ⟨rfl, rfl, rfl, by decide +kernel, rfl, by decide +kernel, by decide +kernel⟩
abbrev n_law_slot : List Str := ["name", "char"]
theorem sc_law_slot : FnScope n_law_slot ["name"] (defScope s_law_slot) := ⟨rfl, rfl, rfl, by decide +kernel, rfl, by decide +kernel, by decide +kernel⟩
abbrev n_law_octets : List Str := ["fields", "names", "width", "octets", "rest", "k", "name"]
theorem sc_law_octets : FnScope n_law_octets ["fields", "names", "width"] (defScope s_law_octets) := ⟨rfl, rfl, rfl, by decide +kernel, rfl, by decide +kernel, by decide +kernel⟩
abbrev n_law_good : List Str := ["octets", "octet", "slot", "length", "k", "code"]
theorem sc_law_good : FnScope n_law_good ["octets"] (defScope s_law_good) := ⟨rfl, rfl, rfl, by decide +kernel, rfl, by decide +kernel, by decide +kernel⟩
abbrev n_law_reads : List Str := ["layout", "octets", "passed", "found", "again"]
theorem sc_law_reads : FnScope n_law_reads ["layout", "octets"] (defScope s_law_reads) := ⟨rfl, rfl, rfl, by decide +kernel, rfl, by decide +kernel, by decide +kernel⟩
abbrev n_law_is : List Str := ["actual", "due"]
theorem sc_law_is : FnScope n_law_is ["actual", "due"] (defScope s_law_is) := ⟨rfl, rfl, rfl, by decide +kernel, rfl, by decide +kernel, by decide +kernel⟩
abbrev n_law_texts : List Str := ["number", "text", "due"]
theorem sc_law_texts : FnScope n_law_texts ["number"] (defScope s_law_texts) := ⟨rfl, rfl, rfl, by decide +kernel, rfl, by decide +kernel, by decide +kernel⟩
abbrev n_law : List Str := ["script", "number", "layout", "width", "fields", "names", "k", "name", "passed", "superblock", "octets", "found", "row"]
theorem sc_law : FnScope n_law ["script"] (defScope s_law) := ⟨rfl, rfl, rfl, by decide +kernel, rfl, by decide +kernel, by decide +kernel⟩
structure Txt (K : PySem.W.Frag) (mg : Str → Option Value) where
  a_number_octets : Addr
  fd_number_octets : FuncData
  a_number_of : Addr
  fd_number_of : FuncData
  a_is_text : Addr
  fd_is_text : FuncData
  a_octets_of : Addr
  fd_octets_of : FuncData
  a_text_of : Addr
  fd_text_of : FuncData
  a_is_code : Addr
  fd_is_code : FuncData
  a_filled : Addr
  fd_filled : FuncData
  a_pieces : Addr
  fd_pieces : FuncData
  a_Superblock___init : Addr
  fd_Superblock___init : FuncData
  a_is_snapshot_name : Addr
  fd_is_snapshot_name : FuncData
  a_encode_superblock : Addr
  fd_encode_superblock : FuncData
  a_decode_superblock : Addr
  fd_decode_superblock : FuncData
  a_slot_octets : Addr
  fd_slot_octets : FuncData
  a_name_in : Addr
  fd_name_in : FuncData
  a_Layout___init : Addr
  fd_Layout___init : FuncData
  a_parts_of : Addr
  fd_parts_of : FuncData
  a_law_row : Addr
  fd_law_row : FuncData
  a_law_layout : Addr
  fd_law_layout : FuncData
  a_law_char : Addr
  fd_law_char : FuncData
  a_law_text : Addr
  fd_law_text : FuncData
  a_law_name : Addr
  fd_law_name : FuncData
  a_law_slot : Addr
  fd_law_slot : FuncData
  a_law_octets : Addr
  fd_law_octets : FuncData
  a_law_good : Addr
  fd_law_good : FuncData
  a_law_reads : Addr
  fd_law_reads : FuncData
  a_law_is : Addr
  fd_law_is : FuncData
  a_law_texts : Addr
  fd_law_texts : FuncData
  a_law : Addr
  fd_law : FuncData
  A_Superblock : Addr
  A_Layout : Addr
  a_BLOCK_SIZES : Addr
  t_FIRST_CODE : Tok
  t_LAST_CODE : Tok
  t_NAMES_END : Tok
  t_NAMES_START : Tok
  t_NAME_SIGNS : Tok
  t_PERCENT : Tok
  t_SIGNS : Tok
  t_SLOT_OCTETS : Tok
  t_SUMMARY_HEAD : Tok
  F_number_octets : Fun K "number_octets" "number_octets" s_number_octets a_number_octets fd_number_octets
  b_number_octets : Binds K fd_number_octets ["number", "count"] []
  m_number_octets : mg "number_octets" = some (.ref a_number_octets)
  F_number_of : Fun K "number_of" "number_of" s_number_of a_number_of fd_number_of
  b_number_of : Binds K fd_number_of ["octets"] []
  m_number_of : mg "number_of" = some (.ref a_number_of)
  F_is_text : Fun K "is_text" "is_text" s_is_text a_is_text fd_is_text
  b_is_text : Binds K fd_is_text ["text"] []
  m_is_text : mg "is_text" = some (.ref a_is_text)
  F_octets_of : Fun K "octets_of" "octets_of" s_octets_of a_octets_of fd_octets_of
  b_octets_of : Binds K fd_octets_of ["text"] []
  m_octets_of : mg "octets_of" = some (.ref a_octets_of)
  F_text_of : Fun K "text_of" "text_of" s_text_of a_text_of fd_text_of
  b_text_of : Binds K fd_text_of ["octets"] []
  m_text_of : mg "text_of" = some (.ref a_text_of)
  F_is_code : Fun K "_is_code" "_is_code" s_is_code a_is_code fd_is_code
  b_is_code : Binds K fd_is_code ["number"] []
  m_is_code : mg "_is_code" = some (.ref a_is_code)
  F_filled : Fun K "filled" "filled" s_filled a_filled fd_filled
  b_filled : Binds K fd_filled ["numbers", "count"] []
  m_filled : mg "filled" = some (.ref a_filled)
  F_pieces : Fun K "pieces" "pieces" s_pieces a_pieces fd_pieces
  b_pieces : Binds K fd_pieces ["numbers", "size"] []
  m_pieces : mg "pieces" = some (.ref a_pieces)
  F_Superblock___init : Fun K "__init__" "Superblock.__init__" s_Superblock___init a_Superblock___init fd_Superblock___init
  b_Superblock___init : Binds K fd_Superblock___init ["self", "size", "height", "root", "names"] []
  F_is_snapshot_name : Fun K "is_snapshot_name" "is_snapshot_name" s_is_snapshot_name a_is_snapshot_name fd_is_snapshot_name
  b_is_snapshot_name : Binds K fd_is_snapshot_name ["text"] []
  m_is_snapshot_name : mg "is_snapshot_name" = some (.ref a_is_snapshot_name)
  F_encode_superblock : Fun K "encode_superblock" "encode_superblock" s_encode_superblock a_encode_superblock fd_encode_superblock
  b_encode_superblock : Binds K fd_encode_superblock ["layout", "superblock"] []
  m_encode_superblock : mg "encode_superblock" = some (.ref a_encode_superblock)
  F_decode_superblock : Fun K "decode_superblock" "decode_superblock" s_decode_superblock a_decode_superblock fd_decode_superblock
  b_decode_superblock : Binds K fd_decode_superblock ["octets"] []
  m_decode_superblock : mg "decode_superblock" = some (.ref a_decode_superblock)
  F_slot_octets : Fun K "_slot_octets" "_slot_octets" s_slot_octets a_slot_octets fd_slot_octets
  b_slot_octets : Binds K fd_slot_octets ["name"] []
  m_slot_octets : mg "_slot_octets" = some (.ref a_slot_octets)
  F_name_in : Fun K "_name_in" "_name_in" s_name_in a_name_in fd_name_in
  b_name_in : Binds K fd_name_in ["slot"] []
  m_name_in : mg "_name_in" = some (.ref a_name_in)
  F_Layout___init : Fun K "__init__" "Layout.__init__" s_Layout___init a_Layout___init fd_Layout___init
  b_Layout___init : Binds K fd_Layout___init ["self", "segments", "segment_blocks", "block_size"] []
  F_parts_of : Fun K "parts_of" "parts_of" s_parts_of a_parts_of fd_parts_of
  b_parts_of : Binds K fd_parts_of ["number", "size"] []
  m_parts_of : mg "parts_of" = some (.ref a_parts_of)
  F_law_row : Fun K "_law_row" "_law_row" s_law_row a_law_row fd_law_row
  b_law_row : Binds K fd_law_row ["script", "k"] []
  m_law_row : mg "_law_row" = some (.ref a_law_row)
  F_law_layout : Fun K "_law_layout" "_law_layout" s_law_layout a_law_layout fd_law_layout
  b_law_layout : Binds K fd_law_layout ["number"] []
  m_law_layout : mg "_law_layout" = some (.ref a_law_layout)
  F_law_char : Fun K "_law_char" "_law_char" s_law_char a_law_char fd_law_char
  b_law_char : Binds K fd_law_char ["number"] []
  m_law_char : mg "_law_char" = some (.ref a_law_char)
  F_law_text : Fun K "_law_text" "_law_text" s_law_text a_law_text fd_law_text
  b_law_text : Binds K fd_law_text ["number", "count"] []
  m_law_text : mg "_law_text" = some (.ref a_law_text)
  F_law_name : Fun K "_law_name" "_law_name" s_law_name a_law_name fd_law_name
  b_law_name : Binds K fd_law_name ["number"] []
  m_law_name : mg "_law_name" = some (.ref a_law_name)
  F_law_slot : Fun K "_law_slot" "_law_slot" s_law_slot a_law_slot fd_law_slot
  b_law_slot : Binds K fd_law_slot ["name"] []
  m_law_slot : mg "_law_slot" = some (.ref a_law_slot)
  F_law_octets : Fun K "_law_octets" "_law_octets" s_law_octets a_law_octets fd_law_octets
  b_law_octets : Binds K fd_law_octets ["fields", "names", "width"] []
  m_law_octets : mg "_law_octets" = some (.ref a_law_octets)
  F_law_good : Fun K "_law_good" "_law_good" s_law_good a_law_good fd_law_good
  b_law_good : Binds K fd_law_good ["octets"] []
  m_law_good : mg "_law_good" = some (.ref a_law_good)
  F_law_reads : Fun K "_law_reads" "_law_reads" s_law_reads a_law_reads fd_law_reads
  b_law_reads : Binds K fd_law_reads ["layout", "octets"] []
  m_law_reads : mg "_law_reads" = some (.ref a_law_reads)
  F_law_is : Fun K "_law_is" "_law_is" s_law_is a_law_is fd_law_is
  b_law_is : Binds K fd_law_is ["actual", "due"] []
  m_law_is : mg "_law_is" = some (.ref a_law_is)
  F_law_texts : Fun K "_law_texts" "_law_texts" s_law_texts a_law_texts fd_law_texts
  b_law_texts : Binds K fd_law_texts ["number"] []
  m_law_texts : mg "_law_texts" = some (.ref a_law_texts)
  F_law : Fun K "law" "law" s_law a_law fd_law
  b_law : Binds K fd_law ["script"] []
  m_law : mg "law" = some (.ref a_law)
  m_Superblock : mg "Superblock" = some (.ref A_Superblock)
  cl_Superblock : Cls K A_Superblock
  M_Superblock : Mk K A_Superblock a_Superblock___init
  na_Superblock_size : NoAttr K A_Superblock "size"
  na_Superblock_height : NoAttr K A_Superblock "height"
  na_Superblock_root : NoAttr K A_Superblock "root"
  na_Superblock_names : NoAttr K A_Superblock "names"
  m_Layout : mg "Layout" = some (.ref A_Layout)
  cl_Layout : Cls K A_Layout
  M_Layout : Mk K A_Layout a_Layout___init
  na_Layout_segments : NoAttr K A_Layout "segments"
  na_Layout_segment_blocks : NoAttr K A_Layout "segment_blocks"
  na_Layout_block_size : NoAttr K A_Layout "block_size"
  na_Layout_payload : NoAttr K A_Layout "payload"
  na_Layout_limit : NoAttr K A_Layout "limit"
  na_Layout_last_id : NoAttr K A_Layout "last_id"
  na_Layout_fan : NoAttr K A_Layout "fan"
  na_Layout_region_blocks : NoAttr K A_Layout "region_blocks"
  na_Layout_device_blocks : NoAttr K A_Layout "device_blocks"
  c_BLOCK_SIZES : mg "BLOCK_SIZES" = some (.ref a_BLOCK_SIZES)
  r_BLOCK_SIZES : RelV (.ref a_BLOCK_SIZES) (.ref a_BLOCK_SIZES)
  v_BLOCK_SIZES : ∀ H : Hp, SqT K H a_BLOCK_SIZES [.int 64, .int 128, .int 256]
  c_FIRST_CODE : mg "FIRST_CODE" = some (.int 32 t_FIRST_CODE)
  r_FIRST_CODE : RelV (.int 32) (.int 32 t_FIRST_CODE)
  c_LAST_CODE : mg "LAST_CODE" = some (.int 126 t_LAST_CODE)
  r_LAST_CODE : RelV (.int 126) (.int 126 t_LAST_CODE)
  c_NAMES_END : mg "NAMES_END" = some (.int 46 t_NAMES_END)
  r_NAMES_END : RelV (.int 46) (.int 46 t_NAMES_END)
  c_NAMES_START : mg "NAMES_START" = some (.int 7 t_NAMES_START)
  r_NAMES_START : RelV (.int 7) (.int 7 t_NAMES_START)
  c_NAME_SIGNS : mg "NAME_SIGNS" = some (.int 12 t_NAME_SIGNS)
  r_NAME_SIGNS : RelV (.int 12) (.int 12 t_NAME_SIGNS)
  c_PERCENT : mg "PERCENT" = some (.int 37 t_PERCENT)
  r_PERCENT : RelV (.int 37) (.int 37 t_PERCENT)
  c_SIGNS : mg "SIGNS" = some (.str " !\"#$ &'()*+,-./0123456789:;<=>?@ABCDEFGHIJKLMNOPQRSTUVWXYZ[\\]^_`abcdefghijklmnopqrstuvwxyz{|}~" t_SIGNS)
  r_SIGNS : RelV (.str " !\"#$ &'()*+,-./0123456789:;<=>?@ABCDEFGHIJKLMNOPQRSTUVWXYZ[\\]^_`abcdefghijklmnopqrstuvwxyz{|}~") (.str " !\"#$ &'()*+,-./0123456789:;<=>?@ABCDEFGHIJKLMNOPQRSTUVWXYZ[\\]^_`abcdefghijklmnopqrstuvwxyz{|}~" t_SIGNS)
  c_SLOT_OCTETS : mg "SLOT_OCTETS" = some (.int 13 t_SLOT_OCTETS)
  r_SLOT_OCTETS : RelV (.int 13) (.int 13 t_SLOT_OCTETS)
  c_SUMMARY_HEAD : mg "SUMMARY_HEAD" = some (.int 16 t_SUMMARY_HEAD)
  r_SUMMARY_HEAD : RelV (.int 16) (.int 16 t_SUMMARY_HEAD)
  n_all : mg "all" = none
  n_any : mg "any" = none
  n_bool : mg "bool" = none
  n_int : mg "int" = none
  n_isinstance : mg "isinstance" = none
  n_len : mg "len" = none
  n_list : mg "list" = none
  n_ord : mg "ord" = none
  n_range : mg "range" = none
  n_reversed : mg "reversed" = none
  n_tuple : mg "tuple" = none
end Sg
namespace Sg
open PySem L2
local macro_rules | `(tactic| walk_at "size") => `(tactic| first | ((simp only [List.length_append, List.length_cons, List.length_nil, List.length_map, Sg.sz]) <;> omega) | (rw [Sg.sz]; simp <;> omega))
local macro_rules | `(tactic| walk_at "side") => `(tactic| first | with_reducible rfl | with_reducible assumption | (show (_ : Int) < _; omega) | omega | (simp only [List.length_map]; omega) | assumption | rfl | decide | exact Or.inr ⟨by decide, by decide⟩ | exact Or.inl ⟨by decide, by decide⟩ | exact Or.inr ⟨by omega, by omega⟩ | exact Or.inl ⟨by omega, by omega⟩ | exact ⟨by omega, by omega⟩ | exact ⟨by decide, by decide, by decide⟩ | (simp; done))
local macro_rules | `(tactic| walk_at "hp") => `(tactic| first | assumption | (refine' L2.SqT.of ?h1; (case h1 => walk_at "hp")) | (refine' L2.SqL.of ?h1; (case h1 => walk_at "hp")) | (refine' Sg.Same.tup ?h1 ?h2; (case h1 => assumption); (case h2 => walk_at "hp")) | (refine' L2.Same.seq ?h1 ?h2; (case h1 => assumption); (case h2 => walk_at "hp")) | (refine' (show L2.Same _ _ from ?h1) _ _ ?h2; (case h1 => assumption); (case h2 => walk_at "hp")) | (refine' Sg.at_keep ?he ?h1 ?h2 ?h3; (case he => assumption); (case h1 => walk_at "hp"); (case h2 => walk_at "hp"); (case h3 => (intro z; cases z))))
local macro_rules | `(tactic| walk_at "al") => `(tactic| (intro p hn; generalize hH : upd _ _ _ = H'; have hs := Sg.Same.of_new hH hn; have ho := Sg.at_new hH; clear hH))
local macro_rules | `(tactic| walk_at "sm1") => `(tactic| first | (refine' L2.Same.trans ?ha ?hb; (case hb => assumption)) | (refine' Sg.Same.old ?ha ?hb ?hc; (case hc => assumption); (case hb => walk_at "nn")))
local macro_rules | `(tactic| walk_at "sm") => `(tactic| first | exact L2.Same.refl _ | assumption | (walk_at "sm1"; walk_at "sm"))
local macro_rules | `(tactic| walk_at "nn") => `(tactic| first | assumption | ((refine' L2.Same.free ?ha ?hb; (case hb => assumption)); walk_at "sm"))
local macro_rules | `(tactic| walk_at "dp") => `(tactic| first | assumption | exact L2.Dp.int _ | exact L2.Dp.non | exact L2.Dp.bl _ | exact L2.Dp.str _ | (refine' L2.Dp.tup ?ha ?hb; (case ha => walk_at "hp"); (case hb => walk_at "dpa")) | (refine' L2.Dp.lst ?ha ?hb; (case ha => walk_at "hp"); (case hb => walk_at "dpa")))
local macro_rules | `(tactic| walk_at "dpa") => `(tactic| first | assumption | exact L2.DpAll.nil | exact Sg.DpAll.ints _ | (refine' L2.DpAll.cons ?ha ?hb; (case ha => walk_at "dp"); (case hb => walk_at "dpa")))
local macro_rules | `(tactic| walk_at "fl") => `(tactic| first | assumption | exact Sg.Fl.int _ _ | exact Sg.Fl.non _ | exact Sg.Fl.bool _ _ | (refine' Sg.Fl.tup ?ha; (case ha => walk_at "fla")) | (refine' Sg.Fl.lst ?ha; (case ha => walk_at "fla")))
local macro_rules | `(tactic| walk_at "fla") => `(tactic| first | assumption | exact Sg.Fl.nil | exact Sg.Fl.mapi | (refine' Sg.Fl.cons ?ha ?hb; (case ha => walk_at "fl"); (case hb => walk_at "fla")))
local macro_rules | `(tactic| walk_at "tyx") => `(tactic| first | exact L2.TyX.base (L2.TyOf.int _) | exact L2.TyX.base (L2.TyOf.bl _) | exact L2.TyX.base L2.TyOf.non | exact L2.TyX.base (L2.TyOf.str _) | (refine' L2.TyX.base (L2.TyOf.tup ?ha); (case ha => walk_at "hp")) | (refine' L2.TyX.base (L2.TyOf.lst ?ha); (case ha => walk_at "hp")) | (refine' L2.TyX.base (L2.TyOf.frz ?ha); (case ha => walk_at "hp")))
local macro_rules | `(tactic| walk_at "up") => `(tactic| (generalize hH : upd _ _ _ = H'; have ho := Sg.at_new hH))
local macro_rules | `(tactic| walk_at "lk") => `(tactic| first | with_reducible assumption | with_reducible exact Sg.lk_eq | (refine' Sg.lk_ne ?ha ?hb; (case ha => decide +kernel); (case hb => walk_at "lk")) | (refine' Sg.lk_no ?ha ?hb; (case ha => decide +kernel); (case hb => walk_at "lk")) | rfl)
local macro_rules | `(tactic| walk_at "few") => `(tactic| first | assumption | omega | decide | (refine' Nat.lt_of_le_of_lt (Sg.putF_len ?ha) ?hb; (case ha => walk_at "fewi"); (case hb => decide)))
local macro_rules | `(tactic| walk_at "fewi") => `(tactic| first | assumption | (refine' Sg.putF_len ?ha; (case ha => walk_at "fewi")) | exact Nat.le_refl _)
local macro_rules | `(tactic| walk_at "rd1") => `(tactic| with_reducible (first | refine' Sg.r_seq ?_ | refine' Sg.r_asg ?_ | refine' Sg.r_gname ?_ | (refine' Sg.r_var (by with_unfolding_all rfl) ?_) | refine' Sg.r_c ?_ | refine' Sg.r_op ?_ | refine' Sg.r_un ?_ | refine' Sg.r_cb ?_ | refine' Sg.r_cons ?_ | refine' Sg.r_nil ?_ | (refine' Sg.r_mod ?hc ?_; (case hc => (with_unfolding_all walk_at "side")); (intro z hz z0 z1)) | (refine' Sg.r_rI ?hc ?_; (case hc => (with_unfolding_all walk_at "side"))) | refine' Sg.r_rI0 ?_ | refine' Sg.r_rU ?_ | refine' Sg.r_int ?_ | refine' Sg.r_eqi ?_ | refine' Sg.r_nei ?_ | (refine' Sg.r_ixl ?h ?e ?_; (case h => (with_unfolding_all walk_at "hp")); (case e => (with_unfolding_all rfl))) | (refine' Sg.r_ixt ?h ?e ?_; (case h => (with_unfolding_all walk_at "hp")); (case e => (with_unfolding_all rfl))) | (refine' Sg.r_lenl ?h ?_; (case h => (with_unfolding_all walk_at "hp"))) | (refine' Sg.r_lent ?h ?_; (case h => (with_unfolding_all walk_at "hp"))) | refine' Sg.r_test ?_ | refine' Sg.r_exb ?_ | refine' Sg.r_tB ?_ | refine' Sg.r_exbP ?_ | refine' Sg.r_ifs ?_ | refine' Sg.r_and ?_ | refine' Sg.r_or ?_ | refine' Sg.r_not ?_ | refine' Sg.r_andV ?_ | refine' Sg.r_orV ?_ | refine' Sg.r_notV ?_ | refine' Sg.r_tif ?_ | refine' Sg.r_isN ?_ | refine' Sg.r_notN ?_ | refine' Sg.r_ret ?_ | refine' Sg.r_drop ?_ | refine' Sg.r_next ?_ | refine' Sg.r_call ?_ | refine' Sg.r_make ?_ | refine' Sg.r_meth ?_ | refine' Sg.r_fld ?_ | refine' Sg.r_sfld ?_ | refine' Sg.r_chain ?_ | (refine' Sg.r_fldL ?h ?hc ?hn ?hl ?_; (case h => (with_unfolding_all walk_at "hp")); (case hc => assumption); (case hn => assumption); (case hl => (with_unfolding_all walk_at "lk"))) | (refine' Sg.r_sfldL ?h ?hc ?hn ?hl ?_; (case h => (with_unfolding_all walk_at "hp")); (case hc => assumption); (case hn => assumption); (case hl => (with_unfolding_all walk_at "few")); (with_unfolding_all walk_at "up")) | (refine' Sg.r_gunl ?h ?hl ?_; (case h => (with_unfolding_all walk_at "hp")); (case hl => (with_unfolding_all walk_at "side"))) | (refine' Sg.r_gtup ?h ?hl ?_; (case h => (with_unfolding_all walk_at "hp")); (case hl => (with_unfolding_all walk_at "side"))) | (refine' Sg.r_methL ?h ?hl ?_; (case h => (with_unfolding_all walk_at "hp")); (case hl => (with_unfolding_all walk_at "lk"))) | refine' Sg.r_tup ?_ | refine' Sg.r_lst ?_ | (refine' Sg.r_ktup ?hl ?_; (case hl => (with_unfolding_all first | exact Nat.le_of_ble_eq_true rfl | decide)); (with_unfolding_all walk_at "al")) | (refine' Sg.r_klst ?hl ?_; (case hl => (with_unfolding_all first | exact Nat.le_of_ble_eq_true rfl | decide)); (with_unfolding_all walk_at "al")) | (refine' Sg.r_listl ?h ?_; (case h => (with_unfolding_all walk_at "hp")); (with_unfolding_all walk_at "al")) | (refine' Sg.r_listt ?h ?_; (case h => (with_unfolding_all walk_at "hp")); (with_unfolding_all walk_at "al")) | (refine' Sg.r_tupl ?h ?_; (case h => (with_unfolding_all walk_at "hp")); (with_unfolding_all walk_at "al")) | (refine' Sg.r_tupt ?h ?_; (case h => (with_unfolding_all walk_at "hp"))) | (refine' Sg.r_in (.inr ?h) ?fx ?fs ?_; (case h => (with_unfolding_all walk_at "hp")); (case fx => (with_unfolding_all rfl)); (case fs => (with_unfolding_all rfl))) | (refine' Sg.r_in (.inl ?h) ?fx ?fs ?_; (case h => (with_unfolding_all walk_at "hp")); (case fx => (with_unfolding_all rfl)); (case fs => (with_unfolding_all rfl))) | (refine' Sg.r_sorted ?h ?h64 ?_; (case h => (with_unfolding_all walk_at "hp")); (case h64 => (with_unfolding_all walk_at "side")); (intro ns' p perm rising; revert p; (with_unfolding_all walk_at "al"))) | (refine' Sg.r_app ?h ?hl ?_; (case h => (with_unfolding_all walk_at "hp")); (case hl => (with_unfolding_all walk_at "size")); (with_unfolding_all walk_at "up")) | refine' Sg.r_lc ?_ | refine' Sg.r_for ?_ | refine' Sg.r_irng1 ?_ | refine' Sg.r_irng2 ?_ | refine' Sg.r_ilist ?_ | refine' Sg.r_itup ?_ | (refine' Sg.r_kR1 ?h1 ?h2 ?_; (case h1 => (with_unfolding_all walk_at "side")); (case h2 => (with_unfolding_all walk_at "side"))) | (refine' Sg.r_kR2 ?h1 ?_; (case h1 => (with_unfolding_all refine ⟨?_, ?_, ?_, ?_⟩ <;> walk_at "side"))) | (refine' Sg.r_kIl ?h ?_; (case h => (with_unfolding_all walk_at "hp"))) | (refine' Sg.r_kIt ?h ?_; (case h => (with_unfolding_all walk_at "hp"))) | refine' Sg.r_bm ?_ | refine' Sg.r_bm0 ?_ | (refine' Sg.r_tyl ?h ?_; (case h => (with_unfolding_all walk_at "hp"))) | refine' Sg.r_nonR ?_ | refine' Sg.r_nonN ?_ | refine' Sg.r_isR ?_ | refine' Sg.r_isNN ?_ | refine' Sg.r_nonI ?_ | refine' Sg.r_isI ?_ | refine' L2.iteT ?_ | refine' L2.iteF ?_ | refine' Sg.r_gcons ?_ | refine' Sg.r_gnil ?_ | refine' Sg.r_gsub ?_ | refine' Sg.r_isb ?_ | refine' Sg.r_notb ?_ | (refine' Sg.r_aug (by with_unfolding_all rfl) ?_) | refine' Sg.r_ipI ?_ | (refine' Sg.r_isi (b := true) (L2.ClsV.ty _) ?ht ?hk ?_; (case ht => (with_unfolding_all walk_at "tyx")); (case hk => (with_unfolding_all exact L2.kit_ty (by decide +kernel)))) | (refine' Sg.r_isi (b := false) (L2.ClsV.ty _) ?ht ?hk ?_; (case ht => (with_unfolding_all walk_at "tyx")); (case hk => (with_unfolding_all exact L2.kit_ty (by decide +kernel)))) | refine' Sg.r_gmap ?_ | refine' Sg.r_gmapn ?_ | (refine' Sg.r_iteb ?hb ?_; (case hb => (with_unfolding_all rfl))) | (refine' Sg.r_iteB ?hb ?_; (case hb => (with_unfolding_all rfl)))))
local macro_rules | `(tactic| walk_at "rd") => `(tactic| repeat walk_at "rd1")
local macro_rules | `(tactic| walk_at "rdo") => `(tactic| repeat (first | walk_at "rd1" | (with_reducible refine' Sg.r_iteD ?hc ?_; (case hc => first | assumption | omega)) | (with_reducible refine' Sg.r_iteDn ?hc ?_; (case hc => first | assumption | omega)) | (with_reducible refine' Sg.r_iteND ?hc ?_; (case hc => first | assumption | omega)) | (with_reducible refine' Sg.r_iteNDn ?hc ?_; (case hc => first | assumption | omega))))
local macro_rules | `(tactic| walk_at "rd1") => `(tactic| with_reducible (first | refine' Sg.r_istr ?_ | refine' Sg.r_kIs ?_ | refine' Sg.r_eqb ?_ | refine' Sg.r_isS ?_ | refine' Sg.r_nonS ?_ | refine' Sg.r_eqs ?_ | refine' Sg.r_nes ?_ | refine' Sg.r_sl ?_ | refine' Sg.r_noP ?_ | refine' Sg.r_part ?_ | refine' Sg.r_kPart ?_ | (refine' Sg.r_slL ?h ?_; (case h => (with_unfolding_all walk_at "hp")); (with_unfolding_all walk_at "al"))))
local macro_rules | `(tactic| walk_at "szle") => `(tactic| (rw [Sg.sz]; (try simp only [List.length_map, List.length_append, List.length_cons, List.length_nil, List.length_replicate]); omega))
local macro_rules | `(tactic| walk_at "rd1") => `(tactic| with_reducible (first | (refine' Sg.r_cat ?h ?h' ?hz ?_; (case h => (with_unfolding_all walk_at "hp")); (case h' => (with_unfolding_all walk_at "hp")); (case hz => (with_unfolding_all walk_at "szle")); (with_unfolding_all walk_at "al")) | (refine' Sg.r_rep1 ?h ?h1 ?h2 ?_; (case h => (with_unfolding_all walk_at "hp")); (case h1 => omega); (case h2 => omega); (with_unfolding_all walk_at "al"))))
local macro_rules | `(tactic| walk_at "rd1") => `(tactic| with_reducible (first | (refine' Sg.r_lenS ?hl ?_; (case hl => omega)) | (refine' Sg.r_min2 ?_; (intro m hm1 hm2 hm3)) | (refine' Sg.r_max2 ?_; (intro m hm1 hm2 hm3)) | (refine' Sg.r_addT ?hl ?_; (case hl => omega))))
local macro_rules | `(tactic| walk_at "ca1") => `(tactic| fail)
local macro_rules | `(tactic| walk_at "pr") => `(tactic| first | assumption | omega | walk_at "hp" | exact L2.upd_same | rfl | trivial | decide)
local macro_rules | `(tactic| walk_at "it1") => `(tactic| with_reducible (first | (refine' Sg.r_iteD ?hc ?_; (case hc => first | assumption | omega)) | (refine' Sg.r_iteDn ?hc ?_; (case hc => first | assumption | omega)) | (refine' Sg.r_iteND ?hc ?_; (case hc => first | assumption | omega)) | (refine' Sg.r_iteNDn ?hc ?_; (case hc => first | assumption | omega))))
local macro_rules | `(tactic| walk_at "go1") => `(tactic| first | walk_at "rd1" | walk_at "rx1" | walk_at "ca1" | walk_at "it1")
local macro_rules | `(tactic| walk_at "go") => `(tactic| repeat walk_at "go1")
local macro_rules | `(tactic| walk_at "gs") => `(tactic| repeat' (first | walk_at "go1" | with_reducible refine' Sg.r_ite (fun _ => ?_) (fun _ => ?_) | with_reducible refine' Sg.r_iteN (fun _ => ?_) (fun _ => ?_)))
-- imports: HandS.NoneIn HandS.Defaults HandS.TupMul HandS.Zip HandS.SetFor HandS.SetKeys HandS.Walk HandS.Codes HandS.Text HandS.AnyAll HandS.WideBits HandS.Iter HandS.Rev HandS.ForExc HandS.CallSlots PyProof.WalksMore KE.GoesEnum
-- auto
section
variable {P : Program} {w : World} {K : PySem.W.Frag} {mg : Str → Option Value} {base : Heap}
theorem made_same {H H1 : Hp} {x dx : Addr} {o : HO} (nx : H x = none) (nd : H dx = none) (k : ∀ q, q ≠ x → H1 q = upd (upd H dx (.own x)) x o q) : Same H H1 := fun b u e => by
  rw [k b (ne_of_none e nx), upd_ne (ne_of_none e nx), upd_ne (ne_of_none e nd)]
  exact e

/-! ### numbers drawn from the script (the cell of an empty script is its number) -/
def sp_row (K : PySem.W.Frag) : Sp := fun vs H Q _ => ∃ (a : Addr) (ns : List Int) (k : Int), vs = [.ref a, .int k] ∧ SqL K H a (ns.map V.int) ∧ ns.length ≤ 63 ∧ 0 ≤ k ∧ k ≤ 1000 ∧ ∀ z : Int, 0 ≤ z → Q (.int z) H
theorem ok_law_row (T : Txt K mg) : FnOk P w K mg base CX0 1 T.a_law_row T.fd_law_row ["script", "k"] (sp_row K) := by
  refine T.F_law_row.ok sc_law_row (fun vs H Q E h => ?_) (fun cdv A outer s H vs Q E hr h => ?_)
  · obtain ⟨a, ns, k, rfl, _⟩ := h
    rfl
  · refine ⟨_, (pss_cons (ps_set (i := 2) sc_law_row.nd rfl (Or.inl rfl) (pv 1))
       (C8.pss_cut (ps_if (pt_cmpR op_gt (pe_callB (c_len) (by rfl) T.n_len (by decide +kernel) (pa_cons (pv 0) pa_nil)) pe_int (nomark _))
       (pss_one (ps_set (i := 2) sc_law_row.nd rfl (Or.inl rfl) (pe_callTy c_int (by rfl) T.n_int (by decide +kernel) (pa_cons (pe_ix ix_list (pv 0) (pe_op op_mod (pv 1) (pe_callB (c_len) (by rfl) T.n_len (by decide +kernel) (pa_cons (pv 0) pa_nil))) (fun _ _ => rfl)) pa_nil))))
       pss_nil)
       (C8.pss_cut (ps_if (pt_cmpR op_lt (pv 2) pe_int (nomark _))
       (pss_one (ps_set (i := 2) sc_law_row.nd rfl (Or.inl rfl) (pe_op op_sub (pe_op op_mul (pe_un un_neg pe_int) (pv 2)) pe_int)))
       pss_nil)
       (C8.pss_cut (ps_if (PW.pt (pw_and (pt_cmpR op_lt (pv 1) (pe_callB (c_len) (by rfl) T.n_len (by decide +kernel) (pa_cons (pv 0) pa_nil)) (nomark _)) (pw_and1 (pt_cmpR op_ge (pv 2) (pe_op op_pow pe_int pe_int) (nomark _)))))
       (pss_one (ps_ret (pv 2)))
       pss_nil)
       (pss_cons (ps_set (i := 3) sc_law_row.nd rfl (Or.inl rfl) (pe_op op_mod (pe_callTy c_int (by rfl) T.n_int (by decide +kernel) (pa_cons (pe_op op_add (pe_op op_add (pe_op op_mul (pv 2) pe_int) (pe_op op_mul (pv 1) pe_int)) pe_int) pa_nil)) pe_int))
       (pss_cons (ps_set (i := 4) sc_law_row.nd rfl (Or.inl rfl) (pe_op op_mod (pe_callTy c_int (by rfl) T.n_int (by decide +kernel) (pa_cons (pe_op op_add (pe_op op_add (pe_op op_add (pe_op op_mul (pv 3) pe_int) (pv 2)) (pe_op op_mul (pv 1) pe_int)) pe_int) pa_nil)) pe_int))
       (pss_cons (ps_set (i := 3) sc_law_row.nd rfl (Or.inl rfl) (pe_op op_mod (pe_callTy c_int (by rfl) T.n_int (by decide +kernel) (pa_cons (pe_op op_add (pe_op op_add (pe_op op_mul (pv 3) pe_int) (pe_op op_mul (pv 4) pe_int)) (pv 1)) pa_nil)) pe_int))
       (pss_one (ps_ret (pe_op op_add (pe_op op_mul (pv 4) pe_int) (pv 3))))))))))), ?_⟩
    try dsimp only [cxOf, Cx.nox, Cx.wish]
    obtain ⟨a, ns, k, rfl, hS, h63, k0, k1, q⟩ := h
    walk_at "rd"
    refine r_cut (fun σ' H' => ∃ z : Int, σ' = [some (.ref a), some (.int k), some (.int z), none, none] ∧ H = H') ?_ ?_
    · walk_at "rd"
      refine r_ite (fun hlen => ?_) (fun _ => ?_)
      · rw [List.length_map] at hlen
        walk_at "rd"
        rename_i z hz z0 z1
        rw [List.length_map] at z1
        refine r_ixl hS (v := .int (ns.getD z.toNat 0)) ?_ ?_
        · obtain ⟨n, rfl⟩ := Int.eq_ofNat_of_zero_le z0
          refine atI_nat ?_
          have hn : n < ns.length := by omega
          rw [List.getElem?_map, List.getElem?_eq_getElem hn, List.getD_eq_getElem?_getD, Int.toNat_natCast, List.getElem?_eq_getElem hn]
          rfl
        · walk_at "rd"
          exact ⟨_, rfl, rfl⟩
      · exact ⟨_, rfl, rfl⟩
    · rintro _ _ ⟨z, rfl, rfl⟩
      walk_at "rd"
      refine r_cut (fun σ' H' => ∃ z : Int, 0 ≤ z ∧ σ' = [some (.ref a), some (.int k), some (.int z), none, none] ∧ H = H') ?_ ?_
      · walk_at "rd"
        refine r_ite (fun _ => ?_) (fun _ => ?_)
        · walk_at "rd"
          exact ⟨_, by omega, rfl, rfl⟩
        · exact ⟨_, by omega, rfl, rfl⟩
      · rintro _ _ ⟨y, y0, rfl, rfl⟩
        walk_at "rd"
        refine r_cutS ?_ ?_
        · walk_at "rd"
          refine r_ite (fun _ => ?_) (fun _ => ?_)
          · walk_at "rd"
            refine r_ite (fun _ => ?_) (fun _ => ?_)
            · walk_at "rd"
              exact q _ y0
            · exact ⟨rfl, rfl⟩
          · walk_at "rd"
            exact ⟨rfl, rfl⟩
        · walk_at "rd"
          exact q _ (by omega)

/-! ### enumerate of a list -/
def kIe (K : PySem.W.Frag) (R : It → Hp → Prop) : List V → Hp → Prop := fun vs H1 => ∃ a xs, vs = [.ref a] ∧ SqL K H1 a xs ∧ R (Ite K a) H1
theorem r_ienum {K : PySem.W.Frag} {ta : TA} {σ : L2.St} {H : Hp} {R : It → Hp → Prop} (h : ta σ H (kIe K R)) : iEnum K ta σ H R := h
theorem r_kIe {K : PySem.W.Frag} {a : Addr} {xs : List V} {H : Hp} {R : It → Hp → Prop} (h1 : SqL K H a xs) (h : R (Ite K a) H) : kIe K R [.ref a] H := ⟨a, xs, rfl, h1, h⟩
theorem r_forE {K : PySem.W.Frag} {a : Addr} {xs : List V} {σ : L2.St} {H : Hp} {D : Ends} {g : TG} {tb : TS} (Pv : Nat → L2.St → Hp → Prop) (h0 : Pv 0 σ H) (hl : ∀ i σ H, i ≤ xs.length → Pv i σ H → SqL K H a xs)
    (hs : ∀ (i : Nat) (x : V) (σ : L2.St) (H H' : Hp) (T : Addr), xs[i]? = some x → Pv i σ H → H T = none → upd H T (.tup [.int (i : Nat), x]) = H' → g (.ref T) σ H' fun σ2 H2 => tb { D with nx := Pv (i + 1), ct := Pv (i + 1), bk := D.nx } σ2 H2)
    (hd : ∀ σ H, Pv xs.length σ H → D.nx σ H) : kFor g tb D σ (Ite K a) H :=
  for_it walk_enum Pv h0 hl (fun i x σ H H' hlt p y => by
    obtain ⟨T, z, w, e1, e2, e3, e4, e5⟩ := y
    cases e4
    rw [e1]
    exact hs i w σ H H' T e5 p e2 e3.symm) hd
def SqI (K : PySem.W.Frag) (H : Hp) (l : Addr) (ns : List Int) : Prop := SqL K H l (ns.map V.int) ∨ SqT K H l (ns.map V.int)
theorem SqI.mono {K : PySem.W.Frag} {H H' : Hp} {l : Addr} {ns : List Int} (s : Same H H') (h : SqI K H l ns) : SqI K H' l ns := h.imp (fun h => s.seq h) (fun h => Same.tup s h)
theorem inV_ints (k : Int) : ∀ ns : List Int, inV (.int k) (ns.map V.int) = decide (k ∈ ns)
  | [] => rfl
  | n :: ns => by
    have ih := inV_ints k ns
    unfold inV at ih ⊢
    rw [List.map_cons, List.any_cons, ih]
    by_cases e : k = n
    · subst e
      simp [eqV]
    · have e' : ¬ n = k := fun z => e z.symm
      simp [eqV, e, e']
theorem flat_ints : ∀ ns : List Int, (ns.map V.int).all flatV = true
  | [] => rfl
  | n :: ns => by rw [List.map_cons, List.all_cons, flat_ints ns]; rfl

theorem r_neI {K : PySem.W.Frag} {H : Hp} {a b : Addr} {ns : List Int} {Q : V → Hp → Prop} (ha : SqL K H a (ns.map V.int)) (hb : SqL K H b (ns.map V.int)) (q : Q (.bl false) H) : rNeD K (.ref a) (.ref b) H Q := by
  refine r_ned (Dp.ints ha) (Dp.ints hb) (Fl.intlS ns) (Fl.intlS ns) ?_
  rw [(Fl.intl ns).self]
  exact q
theorem r_eqI {K : PySem.W.Frag} {H : Hp} {a b : Addr} {ns : List Int} {Q : V → Hp → Prop} (ha : SqL K H a (ns.map V.int)) (hb : SqL K H b (ns.map V.int)) (q : Q (.bl true) H) : rEqD K (.ref a) (.ref b) H Q := by
  refine r_eqd (Dp.ints ha) (Dp.ints hb) (Fl.intlS ns) (Fl.intlS ns) ?_
  rw [(Fl.intl ns).self]
  exact q

/-! ### comprehensions whose items follow from what is walked -/
theorem r_lcF {α : Type} {J : It} {n slot : Nat} {G : Hp → Prop} {Y : Nat → Hp → V → Hp → Prop} {vs : List Nat} {te : TE} {σ : L2.St} {H : Hp} {Q : V → Hp → Prop} (w : Walk J n G Y) (xs : List α) (hn : xs.length = n) (hmax : n ≤ 100000) (g f : α → V)
    (hY : ∀ i H x H', Y i H x H' → H' = H ∧ ∃ u, xs[i]? = some u ∧ x = g u) (hG : ∀ H', L2.Same H H' → G H') (hv : vs = [slot])
    (hs : ∀ (i : Nat) (u : α) (H' : Hp), xs[i]? = some u → L2.Same H H' → ∀ R : V → Hp → Prop, (∀ H'', L2.Same H' H'' → R (f u) H'') → te ((wipe σ vs).set slot (some (g u))) H' R)
    (q : ∀ (H' : Hp) (l : Addr), L2.Same H H' → H l = none → H' l = some (.lst (xs.map f)) → Q (.ref l) H') : kLc (gName slot) tYes te vs σ Q J H := by
  intro L hL
  have hw : ∀ (τ : L2.St) (x : V), wipe (τ.set slot (some x)) [slot] = wipe τ [slot] := fun τ x => by simp [wipe, List.set_set]
  have hw2 : wipe (wipe σ vs) vs = wipe σ vs := by subst hv; simp [wipe, List.set_set]
  refine lc_it w (fun i H' => H' L = some (.lst ((xs.take i).map f)) ∧ L2.Same H H') ⟨upd_same, fun b o e => by rw [upd_ne (ne_of_none e hL)]; exact e⟩ (fun i H' _ p => hG H' p.2) ?_ ?_
  · rintro i x H' H'' hi ⟨eL, s⟩ y
    obtain ⟨rfl, u, hu, rfl⟩ := hY _ _ _ _ y
    refine ⟨?_, ?_⟩
    · subst hv
      rw [hw]
      exact hw2
    · show te ((wipe σ vs).set slot (some (g u))) H'' _
      refine hs i u _ hu s _ fun H3 s3 => ⟨_, s3 _ _ eL, ?_, ?_, ?_⟩
      · rw [List.length_map, List.length_take, sz]
        omega
      · rw [upd_same, List.take_add_one, hu, List.map_append]
        rfl
      · intro b o e
        rw [upd_ne (ne_of_none e hL)]
        exact s3 _ _ (s _ _ e)
  · rintro H' ⟨eL, s⟩
    rw [← hn, List.take_length] at eL
    exact q H' L s hL eL
theorem r_lcS {z : Str} {slot : Nat} {vs : List Nat} {te : TE} {σ : L2.St} {H : Hp} {Q : V → Hp → Prop} (f : Nat → V) (hmax : z.length ≤ 100000) (hv : vs = [slot])
    (hs : ∀ (i : Nat) (c : Nat) (H' : Hp), z.cps.toList[i]? = some c → L2.Same H H' → ∀ R : V → Hp → Prop, (∀ H'', L2.Same H' H'' → R (f c) H'') → te ((wipe σ vs).set slot (some (.str (SX.S [c])))) H' R)
    (q : ∀ (H' : Hp) (l : Addr), L2.Same H H' → H l = none → H' l = some (.lst (z.cps.toList.map f)) → Q (.ref l) H') : kLc (gName slot) tYes te vs σ Q (Its z) H :=
  r_lcF walk_str z.cps.toList (Array.length_toList) hmax (fun c => .str (SX.S [c])) f (fun i H x H' ⟨e, c, hc, hx⟩ => ⟨e, c, by simpa using hc, hx⟩) (fun _ _ => trivial) hv hs q
theorem r_lcLF {K : PySem.W.Frag} {a : Addr} {ns : List Int} {slot : Nat} {vs : List Nat} {te : TE} {σ : L2.St} {H : Hp} {Q : V → Hp → Prop} (f : Int → V) (hx : SqL K H a (ns.map V.int)) (hmax : ns.length ≤ 100000) (hv : vs = [slot])
    (hs : ∀ (i : Nat) (c : Int) (H' : Hp), ns[i]? = some c → L2.Same H H' → ∀ R : V → Hp → Prop, (∀ H'', L2.Same H' H'' → R (f c) H'') → te ((wipe σ vs).set slot (some (.int c))) H' R)
    (q : ∀ (H' : Hp) (l : Addr), L2.Same H H' → H l = none → H' l = some (.lst (ns.map f)) → Q (.ref l) H') : kLc (gName slot) tYes te vs σ Q (Itl K a) H :=
  r_lcF (walk_list (K := K) (a := a) (xs := ns.map V.int)) ns (by rw [List.length_map]) (by rw [List.length_map]; exact hmax) V.int f (fun i H x H' ⟨e, hx⟩ => by
    rw [List.getElem?_map] at hx
    obtain ⟨y, hy, rfl⟩ := Option.map_eq_some_iff.mp hx
    exact ⟨e, y, hy, rfl⟩) (fun H' s => s.seq hx) hv hs q
theorem r_lcTF {K : PySem.W.Frag} {a : Addr} {ns : List Int} {slot : Nat} {vs : List Nat} {te : TE} {σ : L2.St} {H : Hp} {Q : V → Hp → Prop} (f : Int → V) (hx : SqT K H a (ns.map V.int)) (hmax : ns.length ≤ 100000) (hv : vs = [slot])
    (hs : ∀ (i : Nat) (c : Int) (H' : Hp), ns[i]? = some c → L2.Same H H' → ∀ R : V → Hp → Prop, (∀ H'', L2.Same H' H'' → R (f c) H'') → te ((wipe σ vs).set slot (some (.int c))) H' R)
    (q : ∀ (H' : Hp) (l : Addr), L2.Same H H' → H l = none → H' l = some (.lst (ns.map f)) → Q (.ref l) H') : kLc (gName slot) tYes te vs σ Q (Itt K a) H :=
  r_lcF (walk_tup (K := K) (a := a) (xs := ns.map V.int)) ns (by rw [List.length_map]) (by rw [List.length_map]; exact hmax) V.int f (fun i H x H' ⟨e, hx⟩ => by
    rw [List.getElem?_map] at hx
    obtain ⟨y, hy, rfl⟩ := Option.map_eq_some_iff.mp hx
    exact ⟨e, y, hy, rfl⟩) (fun H' s => Same.tup s hx) hv hs q
/-! ### a list or a tuple is walked -/
def iSeq (K : PySem.W.Frag) (te : TE) : TI := fun σ H R => iList K te σ H R ∨ iTup K te σ H R
theorem pi_seq {X : Cx} {tg e : Expr} {te : TE} (h1 : PI X tg e (iList X.K te)) (h2 : PI X tg e (iTup X.K te)) : PI X tg e (iSeq X.K te) :=
  ⟨fun pins s σ H R I h => h.elim (h1.run pins s σ H R I) (h2.run pins s σ H R I)⟩
theorem r_lcSeq {K : PySem.W.Frag} {a : Addr} {ns : List Int} {j slot : Nat} {vs : List Nat} {te : TE} {σ : L2.St} {H : Hp} {Q : V → Hp → Prop} (f : Int → V) (h0 : σ[j]? = some (some (.ref a))) (hx : SqI K H a ns) (hmax : ns.length ≤ 100000) (hv : vs = [slot])
    (hs : ∀ (i : Nat) (c : Int) (H' : Hp), ns[i]? = some c → L2.Same H H' → ∀ R : V → Hp → Prop, (∀ H'', L2.Same H' H'' → R (f c) H'') → te ((wipe σ vs).set slot (some (.int c))) H' R)
    (q : ∀ (H' : Hp) (l : Addr), L2.Same H H' → H l = none → H' l = some (.lst (ns.map f)) → Q (.ref l) H') : iSeq K (tVar j) σ H (kLc (gName slot) tYes te vs σ Q) := by
  rcases hx with hx | hx
  · exact .inl ⟨_, h0, a, rfl, ⟨_, hx⟩, r_lcLF f hx hmax hv hs q⟩
  · exact .inr ⟨_, h0, a, rfl, ⟨_, hx⟩, r_lcTF f hx hmax hv hs q⟩
/-! ### texts -/
theorem r_addS {a b : Str} {H : Hp} {Q : V → Hp → Prop} (hl : a.length + b.length ≤ 1000000) (q : Q (.str (a ++ b)) H) : (fun x y H Q => ∃ i j, x = V.str i ∧ y = V.str j ∧ i.length + j.length ≤ sizeLine ∧ Q (V.str (i ++ j)) H : R2) (.str a) (.str b) H Q :=
  ⟨a, b, rfl, rfl, by rw [sz]; omega, q⟩
theorem r_ixs {z : Str} {i : Int} {c : Nat} {H : Hp} {Q : V → Hp → Prop} (hl : z.length ≤ 1000000) (e : atI z.cps.toList i = some c) (q : Q (.str (SX.S [c])) H) : rIxS (.str z) (.int i) H Q := ⟨z, i, c, rfl, rfl, by rw [sz]; omega, e, q⟩
theorem app_tl (a b : Str) : (a ++ b).cps.toList = a.cps.toList ++ b.cps.toList := TL.tl_append a b
theorem app_len (a b : Str) : (a ++ b).length = a.length + b.length := by
  show (a.cps ++ b.cps).size = _
  rw [Array.size_append]
  rfl
theorem len_tl (z : Str) : z.cps.toList.length = z.length := Array.length_toList
def goodN (c : Nat) : Bool := decide (32 ≤ c) && (decide (c ≤ 126) && !decide (c = 37))
def goodI (i : Int) : Bool := decide (32 ≤ i) && (decide (i ≤ 126) && !decide (i = 37))
theorem goodI_nat (c : Nat) : goodI (c : Int) = goodN c := by
  unfold goodI goodN
  rw [Bool.eq_iff_iff]
  simp only [Bool.and_eq_true, decide_eq_true_eq, Bool.not_eq_true', decide_eq_false_iff_not]
  omega
theorem goodI_iff {i : Int} : goodI i = true ↔ 32 ≤ i ∧ i ≤ 126 ∧ i ≠ 37 := by
  unfold goodI
  simp only [Bool.and_eq_true, decide_eq_true_eq, Bool.not_eq_true', decide_eq_false_iff_not, ne_eq]
theorem goodI_false {i : Int} (h : ¬ (32 ≤ i ∧ i ≤ 126 ∧ i ≠ 37)) : goodI i = false := by
  cases e : goodI i with
  | false => rfl
  | true => exact absurd (goodI_iff.mp e) h
/-- the octets of a text -/
def ocs (z : Str) : List Int := z.cps.toList.map fun c : Nat => (c : Int)
theorem ocs_back (z : Str) : SX.S ((ocs z).map Int.toNat) = z := by
  unfold ocs
  rw [List.map_map]
  have e : (Int.toNat ∘ fun c : Nat => (c : Int)) = id := by funext c; rfl
  rw [e, List.map_id]
theorem ocs_good (z : Str) : (ocs z).all goodI = z.cps.toList.all goodN := by
  unfold ocs
  rw [List.all_map, show (goodI ∘ fun c : Nat => (c : Int)) = goodN from funext goodI_nat]
theorem ocs_S {ns : List Int} (h : ∀ x ∈ ns, 0 ≤ x) : ocs (SX.S (ns.map Int.toNat)) = ns := by
  unfold ocs
  show (ns.map Int.toNat).map (fun c : Nat => (c : Int)) = ns
  rw [List.map_map]
  conv => rhs; rw [← List.map_id ns]
  refine List.map_congr_left fun x hx => ?_
  have := h x hx
  show ((x.toNat : Nat) : Int) = x
  omega
theorem joinL_one : ∀ l : List Nat, TL.joinL [] (l.map fun c => [c]) = l
  | [] => rfl
  | [c] => rfl
  | c :: d :: r => by
    have ih := joinL_one (d :: r)
    rw [List.map_cons, List.map_cons]
    rw [List.map_cons] at ih
    show [c] ++ ([] ++ TL.joinL [] ([d] :: r.map fun c => [c])) = c :: d :: r
    rw [ih]
    rfl
theorem sum_ones : ∀ l : List Nat, ((l.map fun c => SX.S [c]).map (·.length)).sum = l.length
  | [] => rfl
  | c :: r => by
    rw [List.map_cons, List.map_cons, List.sum_cons, sum_ones r, SX.S_len, List.length_cons, List.length_cons, List.length_nil]
    omega

/-! ### slices of lists of ints -/
theorem sIx_nn {n d : Nat} {v : Int} (h : 0 ≤ v) : HT.sIx n d (some v) = min v.toNat n := by
  show (if v < 0 then (v + (n : Int)).toNat else min v.toNat n) = _
  rw [if_neg (by omega)]
theorem cut_from {xs : List V} {lo : Int} (h : 0 ≤ lo) : cutV xs (some lo) none = xs.drop lo.toNat := by
  unfold cutV
  rw [sIx_nn h, HT.sIx_none]
  by_cases c : lo.toNat ≤ xs.length
  · rw [Nat.min_eq_left c]
    exact List.take_of_length_le (by rw [List.length_drop]; omega)
  · rw [Nat.min_eq_right (by omega), List.drop_length, List.drop_of_length_le (by omega), List.take_nil]
theorem cut_to {xs : List V} {hi : Int} (h : 0 ≤ hi) : cutV xs none (some hi) = xs.take hi.toNat := by
  unfold cutV
  rw [sIx_nn h, HT.sIx_none, List.drop_zero, Nat.sub_zero]
  by_cases c : hi.toNat ≤ xs.length
  · rw [Nat.min_eq_left c]
  · rw [Nat.min_eq_right (by omega), List.take_length, List.take_of_length_le (by omega)]
theorem cut_both {xs : List V} {lo hi : Int} (h : 0 ≤ lo) (h' : 0 ≤ hi) : cutV xs (some lo) (some hi) = (xs.drop lo.toNat).take (hi.toNat - lo.toNat) := by
  unfold cutV
  rw [sIx_nn h, sIx_nn h']
  by_cases c : lo.toNat ≤ xs.length
  · rw [Nat.min_eq_left c]
    by_cases c2 : hi.toNat ≤ xs.length
    · rw [Nat.min_eq_left c2]
    · rw [Nat.min_eq_right (by omega), List.take_of_length_le (by rw [List.length_drop]; omega), List.take_of_length_le (by rw [List.length_drop]; omega)]
  · rw [Nat.min_eq_right (by omega : xs.length ≤ lo.toNat), List.drop_length, List.drop_of_length_le (by omega), List.take_nil, List.take_nil]

/-! ### numbers in octets: the mathematics -/
def octN : Int → Nat → List Int
  | _, 0 => []
  | n, k + 1 => n % 256 :: octN (n / 256) k
def val : List Int → Int
  | [] => 0
  | x :: r => val r * 256 + x
theorem octN_len : ∀ (k : Nat) (n : Int), (octN n k).length = k
  | 0, _ => rfl
  | k + 1, n => by rw [octN, List.length_cons, octN_len k]
theorem octN_at : ∀ (k i : Nat) (n : Int), i < k → (octN n k)[i]? = some (n / 2 ^ (8 * i) % 2 ^ 8)
  | 0, i, n, h => by omega
  | k + 1, 0, n, h => by
    rw [octN, List.getElem?_cons_zero, Nat.mul_zero, Int.pow_zero, Int.ediv_one]
    rfl
  | k + 1, i + 1, n, h => by
    rw [octN, List.getElem?_cons_succ, octN_at k i (n / 256) (by omega)]
    have e : n / 256 / 2 ^ (8 * i) = n / 2 ^ (8 * (i + 1)) := by
      rw [Int.ediv_ediv_of_nonneg (by decide), Nat.mul_add, Int.pow_add, Int.mul_comm]
      rfl
    rw [e]
theorem octN_byte : ∀ (k : Nat) (n x : Int), x ∈ octN n k → 0 ≤ x ∧ x < 256
  | 0, n, x, h => by cases h
  | k + 1, n, x, h => by
    rw [octN] at h
    rcases List.mem_cons.mp h with rfl | h
    · omega
    · exact octN_byte k _ x h
theorem val_octN : ∀ (k : Nat) (n : Int), val (octN n k) = n % 256 ^ k
  | 0, n => by rw [octN, val, Int.pow_zero, Int.emod_one]
  | k + 1, n => by
    rw [octN, val, val_octN k]
    have h1 : n / 256 % 256 ^ k = n / 256 - 256 ^ k * (n / 256 / 256 ^ k) := Int.emod_def ..
    have h2 : n % 256 ^ (k + 1) = n - 256 ^ (k + 1) * (n / 256 ^ (k + 1)) := Int.emod_def ..
    have h3 : n / 256 / 256 ^ k = n / 256 ^ (k + 1) := by
      rw [Int.ediv_ediv_of_nonneg (by decide), Int.pow_succ, Int.mul_comm]
    have h4 : (256 : Int) ^ (k + 1) = 256 ^ k * 256 := Int.pow_succ ..
    rw [h1, h2, h3, h4, Int.sub_mul, Int.mul_right_comm]
    generalize (256 : Int) ^ k * 256 * (n / (256 ^ k * 256)) = u
    omega
theorem octN_val : ∀ (l : List Int), (∀ x ∈ l, 0 ≤ x ∧ x < 256) → octN (val l) l.length = l
  | [], _ => rfl
  | x :: r, h => by
    obtain ⟨a, b⟩ := h x List.mem_cons_self
    rw [val, List.length_cons, octN]
    have e1 : (val r * 256 + x) % 256 = x := by omega
    have e2 : (val r * 256 + x) / 256 = val r := by omega
    rw [e1, e2, octN_val r fun y hy => h y (List.mem_cons_of_mem _ hy)]
theorem val_nn : ∀ (l : List Int), (∀ x ∈ l, 0 ≤ x ∧ x < 256) → 0 ≤ val l
  | [], _ => Int.le_refl _
  | x :: r, h => by
    have h1 := val_nn r fun y hy => h y (List.mem_cons_of_mem _ hy)
    obtain ⟨a, b⟩ := h x List.mem_cons_self
    rw [val]
    omega
theorem ext_at {l l' : List Int} {n : Nat} (hl : l.length = n) (hl' : l'.length = n) (h : ∀ i x, i < n → l[i]? = some x → l'[i]? = some x) : l = l' := by
  refine List.ext_getElem? fun i => ?_
  by_cases c : i < n
  · have e := List.getElem?_eq_getElem (l := l) (i := i) (by omega)
    rw [e, h i _ c e]
  · rw [List.getElem?_eq_none (by omega), List.getElem?_eq_none (by omega)]

def filI (ns : List Int) (c : Nat) : List Int := (ns ++ List.replicate c 0).take c
theorem filI_len (ns : List Int) (c : Nat) : (filI ns c).length = c := by
  unfold filI
  rw [List.length_take, List.length_append, List.length_replicate]
  omega
theorem filI_at {ns : List Int} {c i : Nat} (h : i < c) : (filI ns c).getD i 0 = ns.getD i 0 := by
  unfold filI
  rw [List.getD_eq_getElem?_getD, List.getD_eq_getElem?_getD, List.getElem?_take_of_lt h]
  by_cases hi : i < ns.length
  · rw [List.getElem?_append_left hi]
  · rw [List.getElem?_append_right (by omega), List.getElem?_eq_none (l := ns) (by omega), List.getElem?_replicate]
    split <;> rfl
theorem ext_getD {l l' : List Int} {n : Nat} (h : l.length = n) (h' : l'.length = n) (e : ∀ i, i < n → l.getD i 0 = l'.getD i 0) : l = l' := by
  refine List.ext_getElem (by omega) fun i h1 h2 => ?_
  have := e i (by omega)
  rw [List.getD_eq_getElem?_getD, List.getD_eq_getElem?_getD, List.getElem?_eq_getElem h1, List.getElem?_eq_getElem h2] at this
  exact this

/-! ### [e for x in ..], x by its place, e anything -/
theorem r_lcFn {J : It} {n slot : Nat} {f : Nat → V} {vs : List Nat} {te : TE} {σ : L2.St} {H : Hp} {Q : V → Hp → Prop} (w : Walk J n (fun _ => True) (YFn f)) (P : Nat → List V → Hp → Prop) (hn : n ≤ 100000) (hv : vs = [slot])
    (h0 : P 0 [] H)
    (hs : ∀ (i : Nat) (acc : List V) (H0 H' : Hp), i < n → L2.Same H H0 → P i acc H0 → L2.Same H0 H' → ∀ R : V → Hp → Prop,
      (∀ (v : V) (H'' : Hp), L2.Same H' H'' → (∀ D, H0 D = none → H' D = some (.lst acc) → P (i + 1) (acc ++ [v]) (hid D H'')) → R v H'') → te ((wipe σ vs).set slot (some (f i))) H' R)
    (q : ∀ (H' : Hp) (l : Addr) (acc : List V), L2.Same H H' → H l = none → H' l = some (.lst acc) → acc.length = n → P n acc (hid l H') → Q (.ref l) H') :
    kLc (gName slot) tYes te vs σ Q J H := by
  intro L hL
  have w1 : ∀ (τ : L2.St) (x : V), wipe (τ.set slot (some x)) [slot] = wipe τ [slot] := fun τ x => by simp [wipe, List.set_set]
  have w2 : wipe (wipe σ vs) vs = wipe σ vs := by subst hv; simp [wipe, List.set_set]
  refine lc_it w (fun i H' => ∃ acc : List V, acc.length = i ∧ H' L = some (.lst acc) ∧ L2.Same H H' ∧ P i acc (hid L H')) ⟨[], rfl, upd_same, fun b o e => by rw [upd_ne (ne_of_none e hL)]; exact e, by rw [hid_upd, hid_none hL]; exact h0⟩ (fun _ _ _ _ => trivial) ?_ ?_
  · rintro i x H' H2 hi ⟨acc, el, eL, s, hp⟩ ⟨rfl, rfl⟩
    refine ⟨?_, ?_⟩
    · subst hv
      rw [w1]
      exact w2
    · show te ((wipe σ vs).set slot (some (f i))) H2 _
      refine hs i acc (hid L H2) H2 hi (same_hid s hL) hp hid_same _ fun v H3 s3 hP => ⟨acc, s3 _ _ eL, by rw [el, sz]; omega, acc ++ [v], by rw [List.length_append, el]; rfl, upd_same, fun b o e => ?_, ?_⟩
      · rw [upd_ne (ne_of_none e hL)]
        exact s3 _ _ (s _ _ e)
      · rw [hid_upd]
        exact hP L hid_at eL
  · rintro H' ⟨acc, el, eL, s, hp⟩
    exact q H' L acc s hL eL el hp
def kR3 (R : It → Hp → Prop) : List V → Hp → Prop := fun vs H1 => ∃ (i j c : Int) (n : Nat), vs = [.int i, .int j, .int c] ∧ RgC i j c n ∧ R (Itc i c n) H1
theorem r_irng3 {ta : TA} {σ : L2.St} {H : Hp} {R : It → Hp → Prop} (h : ta σ H (kR3 R)) : iRng3 ta σ H R := h
theorem r_kR3 {i j c : Int} {n : Nat} {H : Hp} {R : It → Hp → Prop} (hr : RgC i j c n) (h : R (Itc i c n) H) : kR3 R [.int i, .int j, .int c] H := ⟨i, j, c, n, rfl, hr, h⟩
/-- in a comprehension: the frame is named from outside -/
theorem sl_listK {X : Cx} {K : PySem.W.Frag} (h : X.K = K) : SlR X (rSlL K) := by subst h; exact sl_list

/-! ### pieces of a heap that are changed apart from each other -/
def Dj (a b : Hp) : Prop := ∀ x, a x = none ∨ b x = none
def emp : Hp := fun _ => none
def one (l : Addr) (o : HO) : Hp := fun b => if b = l then some o else none
def uni (a b : Hp) : Hp := fun x => (a x).or (b x)
/-- all but a piece -/
def rest (u H : Hp) : Hp := fun b => if u b = none then H b else none
/-- what is new -/
def fr (H H' : Hp) : Hp := fun b => if H b = none then H' b else none
/-- a piece is changed, all else stands -/
structure Act (f H f' H' : Hp) : Prop where
  inn : Same f' H'
  frm : ∀ b o, H b = some o → f b = none → H' b = some o
  new : ∀ b, f' b ≠ none → f b ≠ none ∨ H b = none
  liv : ∀ b, H' b = none → H b = none
theorem Dj.symm {a b : Hp} (d : Dj a b) : Dj b a := fun x => (d x).elim .inr .inl
theorem Dj.left {a b : Hp} {x : Addr} {o : HO} (d : Dj a b) (h : a x = some o) : b x = none := by
  rcases d x with e | e
  · rw [e] at h; cases h
  · exact e
theorem Dj.right {a b : Hp} {x : Addr} {o : HO} (d : Dj a b) (h : b x = some o) : a x = none := d.symm.left h
theorem Same.out {k H : Hp} {x : Addr} (s : Same k H) (h : H x = none) : k x = none := by
  cases e : k x with
  | none => rfl
  | some o => rw [s _ _ e] at h; cases h
theorem Act.refl {f H : Hp} (s : Same f H) : Act f H f H := ⟨s, fun _ _ h _ => h, fun _ h => .inl h, fun _ h => h⟩
theorem Act.of {f H H' : Hp} (s : Same f H) (g : Same H H') : Act f H f H' := ⟨s.trans g, fun _ _ h _ => g _ _ h, fun _ h => .inl h, fun _ h => g.free h⟩
theorem Act.keep {f H f' H' k : Hp} (A : Act f H f' H') (s : Same k H) (d : Dj k f) : Same k H' := fun b o h => A.frm b o (s b o h) (d.left h)
theorem Act.dj {f H f' H' k : Hp} (A : Act f H f' H') (s : Same k H) (d : Dj k f) : Dj k f' := fun x => by
  cases e : k x with
  | none => exact .inl rfl
  | some o =>
    refine .inr ?_
    cases e' : f' x with
    | none => rfl
    | some o' =>
      rcases A.new x (by rw [e']; intro z; cases z) with z | z
      · exact absurd (d.left e) z
      · rw [s _ _ e] at z; cases z
theorem Act.trans {f H f' H' f2 H2 : Hp} (A : Act f H f' H') (B : Act f' H' f2 H2) (s : Same f H) : Act f H f2 H2 := by
  refine ⟨B.inn, fun b o h hf => B.frm b o (A.frm b o h hf) ?_, fun b hb => ?_, fun b h => A.liv b (B.liv b h)⟩
  · cases e : f' b with
    | none => rfl
    | some o' =>
      rcases A.new b (by rw [e]; intro z; cases z) with z | z
      · exact absurd hf z
      · rw [h] at z; cases z
  · rcases B.new b hb with z | z
    · exact A.new b z
    · cases e : H b with
      | none => exact .inr rfl
      | some o =>
        cases e' : f b with
        | some o' => exact .inl (by intro y; cases y)
        | none => rw [A.frm b o e e'] at z; cases z
theorem Act.after {f H f' H' H2 : Hp} (A : Act f H f' H') (s : Same H' H2) : Act f H f' H2 := ⟨A.inn.trans s, fun b o h hf => s _ _ (A.frm b o h hf), A.new, fun b h => A.liv b (s.free h)⟩
theorem Act.ahead {f H0 H f' H' : Hp} (s : Same H0 H) (sf : Same f H0) (A : Act f H f' H') : Act f H0 f' H' := (Act.of sf s).trans A sf
/-- one object of a piece is changed -/
theorem Act.put {f H : Hp} {l : Addr} {o ol : HO} (s : Same f H) (h : f l = some ol) : Act f H (upd f l o) (upd H l o) := by
  refine ⟨fun b u e => ?_, fun b u e hb => ?_, fun b hb => .inl ?_, fun b e => ?_⟩
  · by_cases c : b = l
    · rw [c, upd_same] at e ⊢; exact e
    · rw [upd_ne c] at e ⊢; exact s _ _ e
  · rw [upd_ne (fun z => by rw [z, h] at hb; cases hb)]; exact e
  · by_cases c : b = l
    · rw [c, h]; intro z; cases z
    · rw [upd_ne c] at hb; exact hb
  · by_cases c : b = l
    · rw [c, upd_same] at e; cases e
    · rw [upd_ne c] at e; exact e
/-- a new object joins a piece -/
theorem Act.add {f H : Hp} {l : Addr} {o : HO} (s : Same f H) (h : H l = none) : Act f H (upd f l o) (upd H l o) := by
  refine ⟨fun b u e => ?_, fun b u e hb => ?_, fun b hb => ?_, fun b e => ?_⟩
  · by_cases c : b = l
    · rw [c, upd_same] at e ⊢; exact e
    · rw [upd_ne c] at e ⊢; exact s _ _ e
  · rw [upd_ne (fun z => by rw [z, h] at e; cases e)]; exact e
  · by_cases c : b = l
    · exact .inr (by rw [c]; exact h)
    · rw [upd_ne c] at hb; exact .inl hb
  · by_cases c : b = l
    · rw [c, upd_same] at e; cases e
    · rw [upd_ne c] at e; exact e
/-- objects of H that stood ahead and are new join a piece -/
theorem Act.join {f H H' k : Hp} (s : Same f H) (g : Same H H') (hk : Same k H') (n : ∀ b, k b ≠ none → H b = none) : Act f H (uni f k) H' := by
  refine ⟨fun b u e => ?_, fun b u e _ => g _ _ e, fun b hb => ?_, fun b h => g.free h⟩
  · unfold uni at e
    cases e' : f b with
    | some o => rw [e'] at e; exact g _ _ (s _ _ (by rw [e', ← e]; rfl))
    | none => rw [e'] at e; exact hk _ _ e
  · unfold uni at hb
    cases e' : f b with
    | some o => exact .inl (by intro z; cases z)
    | none => rw [e'] at hb; exact .inr (n b hb)
theorem rest_same {u H : Hp} : Same (rest u H) H := fun b o e => by
  unfold rest at e
  split at e
  · exact e
  · cases e
theorem rest_at {u H : Hp} {b : Addr} {o : HO} (h : H b = some o) (hu : u b = none) : rest u H b = some o := by unfold rest; rw [if_pos hu]; exact h
theorem rest_dj {u H : Hp} : Dj (rest u H) u := fun x => by
  unfold rest
  by_cases e : u x = none
  · exact .inr e
  · exact .inl (if_neg e)
theorem rest_in {k u H : Hp} (s : Same k H) (d : Dj k u) : Same k (rest u H) := fun b o e => rest_at (s _ _ e) (d.left e)
theorem rest_mono {u H H' : Hp} (s : Same H H') : Same (rest u H) (rest u H') := rest_in (rest_same.trans s) rest_dj
theorem fr_same {H H' : Hp} : Same (fr H H') H' := fun b o e => by
  unfold fr at e
  split at e
  · exact e
  · cases e
theorem fr_new {H H' : Hp} : ∀ b, fr H H' b ≠ none → H b = none := fun b e => by
  unfold fr at e
  split at e
  · assumption
  · exact absurd rfl e
theorem fr_at {H H' : Hp} {b : Addr} {o : HO} (n : H b = none) (h : H' b = some o) : fr H H' b = some o := by unfold fr; rw [if_pos n]; exact h
theorem new_dj {N H k : Hp} (n : ∀ b, N b ≠ none → H b = none) (s : Same k H) : Dj N k := fun x => by
  cases e : N x with
  | none => exact .inl rfl
  | some o => exact .inr (Same.out s (n x (by rw [e]; intro z; cases z)))
theorem fr_rest {u H H' : Hp} (s : Same u H) : Same (fr H H') (rest u H') := rest_in fr_same (new_dj fr_new s)
theorem Act.rest {f H f' H' : Hp} (A : Act f H f' H') : Same (rest f H) (rest f' H') := rest_in (A.keep rest_same rest_dj) (A.dj rest_same rest_dj)
theorem uni_same {a b H : Hp} (s : Same a H) (t : Same b H) : Same (uni a b) H := fun x o e => by
  unfold uni at e
  cases e' : a x with
  | some u => rw [e'] at e; exact s _ _ (by rw [e', ← e]; rfl)
  | none => rw [e'] at e; exact t _ _ e
theorem uni_left {a b : Hp} : Same a (uni a b) := fun x o e => by unfold uni; rw [e]; rfl
theorem uni_right {a b : Hp} (d : Dj a b) : Same b (uni a b) := fun x o e => by unfold uni; rw [d.right e]; exact e
theorem uni_dj {a b k : Hp} (s : Dj k a) (t : Dj k b) : Dj k (uni a b) := fun x => by
  rcases s x with e | e
  · exact .inl e
  · rcases t x with e' | e'
    · exact .inl e'
    · exact .inr (by unfold uni; rw [e, e']; rfl)
/-- a piece beside another one -/
theorem Act.beside {f H f' H' r : Hp} (A : Act f H f' H') (s : Same r H) (d : Dj r f) : Act (uni f r) H (uni f' r) H' := by
  refine ⟨uni_same A.inn (A.keep s d), fun b o h hb => A.frm b o h ?_, fun b hb => ?_, A.liv⟩
  · cases e : f b with
    | none => rfl
    | some u => unfold uni at hb; rw [e] at hb; cases hb
  · unfold uni at hb ⊢
    cases e : f' b with
    | none =>
      rw [e] at hb
      cases e2 : f b with
      | none => exact .inl hb
      | some o => exact .inl (by intro z; cases z)
    | some u =>
      rcases A.new b (by rw [e]; intro z; cases z) with z | z
      · refine .inl ?_
        cases e2 : f b with
        | none => exact absurd e2 z
        | some o => intro y; cases y
      · exact .inr z
theorem one_at {l : Addr} {o : HO} : one l o l = some o := by unfold one; rw [if_pos rfl]
theorem one_same {l : Addr} {o : HO} {H : Hp} (h : H l = some o) : Same (one l o) H := fun b u e => by
  unfold one at e
  split at e
  · rename_i c; rw [c, h]; exact e
  · cases e
theorem upd_one {l : Addr} {o o' : HO} : upd (one l o) l o' = one l o' := by
  funext b
  by_cases c : b = l
  · rw [c, upd_same, one_at]
  · rw [upd_ne c]; unfold one; rw [if_neg c, if_neg c]
theorem dj_one {k : Hp} {l : Addr} {o : HO} (h : k l = none) : Dj k (one l o) := fun x => by
  by_cases c : x = l
  · rw [c]; exact .inl h
  · exact .inr (by unfold one; rw [if_neg c])
/-- a list that is changed by its owner alone -/
theorem Act.lst {l : Addr} {o o' : HO} {H : Hp} (h : H l = some o) : Act (one l o) H (one l o') (upd H l o') := by
  have := Act.put (o := o') (one_same h) one_at
  rw [upd_one] at this
  exact this
theorem hid_mono {D : Addr} {H H' : Hp} (s : L2.Same H H') : L2.Same (hid D H) (hid D H') := fun b o e => by
  obtain ⟨hb, e⟩ := of_hid e
  rw [hid_ne hb]
  exact s _ _ e
/-- what is younger than f alone -/
theorem Act.free {f H f' H' : Hp} {b : Addr} (A : Act f H f' H') (s : Same f' H') (h : H' b = none) : H b = none ∧ f' b = none := ⟨A.liv b h, Same.out s h⟩
theorem DpAll.snoc {K : PySem.W.Frag} {H : Hp} : ∀ {vs : List V} {ds : List PyData} {v : V} {d : PyData}, DpAll K H vs ds → Dp K H v d → DpAll K H (vs ++ [v]) (ds ++ [d])
  | _, _, _, _, .nil, h => .cons h .nil
  | _, _, _, _, .cons h t, q => .cons h (DpAll.snoc t q)
theorem DpAll.set {K : PySem.W.Frag} {H : Hp} : ∀ {vs : List V} {ds : List PyData} {v : V} {d : PyData} (i : Nat), DpAll K H vs ds → Dp K H v d → DpAll K H (vs.set i v) (ds.set i d)
  | _, _, _, _, _, .nil, _ => .nil
  | _, _, _, _, 0, .cons _ t, q => .cons q t
  | _, _, _, _, i + 1, .cons h t, q => .cons h (DpAll.set i t q)
theorem Fl.str {s : Str} (h : PyData.canLay0 (.str s) = true) (n : Nat) : Fl n (.str s) := ⟨h, by simp [PyData.depth]⟩

section
open PySem.Spec PyProof.Rows
/-! ### text * int; the signs of a text, one by one -/
def mulS (s : Str) (n : Nat) : Str := SX.S (List.replicate n s.cps.toList).flatten
theorem fold_app (x : Array Nat) : ∀ (n : Nat) (acc : Array Nat), ((List.replicate n x).foldl (· ++ ·) acc).toList = acc.toList ++ (List.replicate n x.toList).flatten
  | 0, acc => by simp
  | n + 1, acc => by
    rw [List.replicate_succ, List.foldl_cons, fold_app x n, List.replicate_succ, List.flatten_cons, Array.toList_append, List.append_assoc]
def rMulS : R2 := fun x y H Q => ∃ (s : Str) (n : Int), x = .str s ∧ y = .int n ∧ -1000000 ≤ n ∧ n ≤ 1000000 ∧ s.length * n.toNat ≤ 1000000 ∧ Q (.str (mulS s n.toNat)) H
theorem str_ext {a b : Str} (h : a.cps.toList = b.cps.toList) : a = b := by
  cases a; cases b
  exact congrArg _ (Array.toList_inj.mp h)
theorem op_mulS {X : Cx} : OpR X (binaryOp .Mult) rMulS := by
  intro pins z σ H x y v u Q I rx ry h
  obtain ⟨s, n, rfl, rfl, n0, n1, hl, q⟩ := h
  obtain ⟨t, rfl⟩ := rx
  obtain ⟨t2, rfl⟩ := ry
  have e0 : ¬ n < -(2 ^ 63 : Int) := by omega
  have e1 : ¬ n ≥ 2 ^ 63 := by omega
  refine PySem.P.mul_str (by rw [decide_eq_false e0, decide_eq_false e1]; rfl) (fun h1 _ => ?_) (fun h1 _ => ?_) ?_
  · have hp : 0 < n := by omega
    have h2 : (s.length : Int) * n ≤ 2 ^ 63 - 1 := by
      have : (s.length : Int) * n = ((s.length * n.toNat : Nat) : Int) := by rw [Int.natCast_mul, Int.toNat_of_nonneg (by omega)]
      rw [this]
      omega
    have := (Int.le_ediv_iff_mul_le hp).mpr h2
    omega
  · show decide (s.length * n.toNat > sizeLine) = false
    exact decide_eq_false (by rw [sizeLine_eq]; omega)
  · by_cases c : n < 1
    · rw [if_pos c]
      refine ⟨by decide, ⟨.str (mulS s n.toNat), H, I.tok _, ⟨z.toks, ?_⟩, q⟩⟩
      rw [show n.toNat = 0 by omega]
      rfl
    · rw [if_neg c]
      by_cases d : (n == 1 || s.length == 0) = true
      · rw [if_pos d]
        have : mulS s n.toNat = s := by
          refine str_ext ?_
          show (List.replicate n.toNat s.cps.toList).flatten = s.cps.toList
          rcases Bool.or_eq_true_iff.mp d with d | d
          · have : n = 1 := eq_of_beq d
            subst this
            simp
          · have : s.length = 0 := eq_of_beq d
            have : s.cps.toList = [] := List.eq_nil_of_length_eq_zero (by rw [Array.length_toList]; exact this)
            rw [this]
            simp
        exact ⟨.str (mulS s n.toNat), H, I, ⟨t, by rw [this]⟩, q⟩
      · rw [if_neg d]
        refine ⟨?_, ⟨.str (mulS s n.toNat), H, I.tok _, ⟨z.toks, ?_⟩, q⟩⟩
        · have : ((List.replicate n.toNat s.cps).foldl (· ++ ·) #[]).size ≤ sizeLine := by
            rw [← Array.length_toList, fold_app, List.length_append, List.length_flatten, List.map_replicate, List.sum_replicate_nat, sizeLine_eq, Array.length_toList]
            show 0 + n.toNat * s.cps.size ≤ _
            have : n.toNat * s.cps.size = s.length * n.toNat := Nat.mul_comm ..
            omega
          exact this
        · refine congrArg (fun q => Value.str q _) (str_ext ?_)
          show ((List.replicate n.toNat s.cps).foldl (· ++ ·) #[]).toList = (List.replicate n.toNat s.cps.toList).flatten
          rw [fold_app]
          rfl
theorem r_mulS {s : Str} {n : Int} {H : Hp} {Q : V → Hp → Prop} (n0 : -1000000 ≤ n) (n1 : n ≤ 1000000) (hl : s.length * n.toNat ≤ 1000000) (q : Q (.str (mulS s n.toNat)) H) : rMulS (.str s) (.int n) H Q := ⟨s, n, rfl, rfl, n0, n1, hl, q⟩
theorem mulS_one {s : Str} {c : Nat} (h : s = SX.S [c]) (n : Nat) : (mulS s n).cps.toList = List.replicate n c := by
  subst h
  show (List.replicate n [c]).flatten = _
  induction n with
  | zero => rfl
  | succ n ih => rw [List.replicate_succ, List.flatten_cons, ih]; rfl
/-- for sign in text -/
theorem r_forS {z : Str} {g : TG} {tb : TS} {D : Ends} {σ : L2.St} {H : Hp} (Pv : Nat → L2.St → Hp → Prop) (h0 : Pv 0 σ H)
    (hs : ∀ (i c : Nat) (σ : L2.St) (H : Hp), z.cps.toList[i]? = some c → Pv i σ H → g (.str (SX.S [c])) σ H fun σ2 H2 => tb { D with nx := Pv (i + 1), ct := Pv (i + 1), bk := D.nx } σ2 H2) (hd : ∀ σ H, Pv z.length σ H → D.nx σ H) : kFor g tb D σ (Its z) H :=
  for_it walk_str Pv h0 (fun _ _ _ _ _ => trivial) (fun i x σ H H' _ p ⟨e, c, hc, hx⟩ => by subst e; subst hx; exact hs i c σ _ (by simpa using hc) p) hd

/-! ### any(xs) of a list of ints -/
theorem truth_intsV {prog : Program} {w : World} {A : Around} {ns : List Int} {its : List Value} (r : Vals (ns.map V.int) its) :
    TruthOf prog w A (fun i v => its.toArray[i]? = some v) (fun i => ns.getD i 0 != 0) := fun i v s Q E hv hq => by
  have hv' : its[i]? = some v := by simpa using hv
  have hi := (List.getElem?_eq_some_iff.mp hv').1
  have hl : (ns.map V.int).length = its.length := r.length
  rw [List.length_map] at hl
  have hx : (ns.map V.int)[i]? = some (V.int (ns.getD i 0)) := by
    rw [List.getElem?_map, List.getElem?_eq_getElem (by omega), List.getD_eq_getElem?_getD, List.getElem?_eq_getElem (by omega)]
    rfl
  obtain ⟨u, hu, ru⟩ := r.get hx
  rw [hv'] at hu
  cases hu
  obtain ⟨t, rfl⟩ := ru
  exact PySem.P.truthy_int hq
theorem any_rangeI : ∀ ns : List Int, (List.range ns.length).any (fun i => ns.getD i 0 != 0) = ns.any (· != 0)
  | [] => rfl
  | b :: bs => by
    rw [List.length_cons, List.range_succ_eq_map, List.any_cons, List.any_map, List.any_cons, ← any_rangeI bs]
    all_goals rfl
def rAnyI (K : PySem.W.Frag) : List V → Hp → VK → Prop := fun vs H Q => ∃ (a : Addr) (ns : List Int), vs = [V.ref a] ∧ SqL K H a (ns.map V.int) ∧ Q (.bl (ns.any (· != 0))) H
theorem cr_anyI {X : Cx} (hc : X.calm = true) : CallR X (.builtin "any") (rAnyI X.K) := by
  intro pins s σ H vs us Q I r h
  obtain ⟨a, ns, rfl, hs, q⟩ := h
  obtain ⟨its, rv, hl, _⟩ := I.list hs
  rw [Vals.ref1 r]
  refine PySem.call_any_walk (iter_any hl.isList fun s₂ e2 st hne => ?_)
  subst e2
  refine ⟨_, _, _, _, _, _, _, rfl, Walks.list (A := X.A.in1) (I.ok.hd hc) _ a hne its.toArray, st, truth_intsV rv, fun h' tk hk => ?_⟩
  refine ⟨.bl _, H, I.kept fun b o eo => hk b o (fun hmem => ?_) (Heap.get?_push_of_some _ eo), ?_, q⟩
  · rcases List.mem_cons.mp hmem with e1 | hmem
    · exact absurd (e1 ▸ Heap.lt_size eo) (Nat.lt_irrefl _)
    · cases hmem
  · show Value.bool _ = Value.bool _
    rw [← any_rangeI, List.size_toArray, ← rv.length, List.length_map]
theorem r_anyI {K : PySem.W.Frag} {H : Hp} {a : Addr} {ns : List Int} {Q : V → Hp → Prop} (h : SqL K H a (ns.map V.int)) (q : Q (.bl (ns.any (· != 0))) H) : rAnyI K [.ref a] H Q := ⟨a, ns, rfl, h, q⟩

/-! ### a list or a tuple of ints: slices, any, reversed -/
def rSlQ (K : PySem.W.Frag) : V → Option Int → Option Int → Hp → VK → Prop := fun x lo hi H Q => rSlL K x lo hi H Q ∨ rSlT K x lo hi H Q
theorem sl_seq {X : Cx} : SlR X (rSlQ X.K) := by
  intro pins z σ H x v vl vu lo hi sl Q I rx hs pl pu h
  rcases h with h | h
  · exact sl_list pins z σ H x v vl vu lo hi sl Q I rx hs pl pu h
  · exact sl_tup pins z σ H x v vl vu lo hi sl Q I rx hs pl pu h
/-- the part is new, and of the same kind -/
theorem r_slQ {K : PySem.W.Frag} {H : Hp} {a : Addr} {ns : List Int} {lo hi : Option Int} {Q : V → Hp → Prop} (h : SqI K H a ns) (hw : ¬ (HT.sIx ns.length 0 lo = 0 ∧ HT.sIx ns.length ns.length hi = ns.length))
    (q : ∀ (H' : Hp) (p : Addr), L2.Same H H' → H p = none → (∀ ms : List Int, cutV (ns.map V.int) lo hi = ms.map V.int → SqI K H' p ms) → Q (.ref p) H') : rSlQ K (.ref a) lo hi H Q := by
  rcases h with h | h
  · refine .inl ⟨a, ns.map V.int, rfl, h, fun p np => q _ p (Sg.Same.of_new rfl np) np fun ms e => .inl (.of ?_)⟩
    rw [upd_same, e]
  · refine .inr ⟨a, ns.map V.int, rfl, h, by rw [List.length_map]; exact hw, fun p np => q _ p (Sg.Same.of_new rfl np) np fun ms e => .inr (.of ?_)⟩
    rw [upd_same, e]
theorem r_ixQ {K : PySem.W.Frag} {H : Hp} {a : Addr} {ns : List Int} {i : Int} {v : V} {Q : V → Hp → Prop} (h : SqI K H a ns) (e : atI (ns.map V.int) i = some v) (q : Q v H) : rIx K (.ref a) (.int i) H Q :=
  h.elim (fun h => .inl ⟨a, _, i, v, rfl, rfl, h, e, q⟩) fun h => .inr (.inl ⟨a, _, i, v, rfl, rfl, h, e, q⟩)
def rAnyQ (K : PySem.W.Frag) : List V → Hp → VK → Prop := fun vs H Q => ∃ (a : Addr) (ns : List Int), vs = [V.ref a] ∧ SqI K H a ns ∧ Q (.bl (ns.any (· != 0))) H
theorem cr_anyQ {X : Cx} (hc : X.calm = true) : CallR X (.builtin "any") (rAnyQ X.K) := by
  intro pins z σ H vs us Q I r h
  obtain ⟨a, ns, rfl, hs | hs, q⟩ := h
  · exact cr_anyI hc pins z σ H _ us Q I r ⟨a, ns, rfl, hs, q⟩
  · obtain ⟨its, rv, hl, _⟩ := I.tuple hs
    rw [Vals.ref1 r]
    have hlt : a < z.heap.objs.size := by obtain ⟨_, e, _⟩ := hl; exact Heap.lt_size e
    refine PySem.call_any_walk (wpAny_pyIter_tuple hl ?_)
    refine ⟨_, _, _, _, _, _, _, rfl, Walks.tuple (A := X.A.in1) (I.ok.hd hc) _ a (Nat.ne_of_lt hlt) its.toArray, ⟨⟨_, Heap.get?_push_size _ rfl, rfl, rfl⟩, hl.push _⟩, truth_intsV rv, fun h' tk hk => ?_⟩
    refine ⟨.bl _, H, I.kept fun b o eo => hk b o (fun hm => ?_) (Heap.get?_push_of_some _ eo), ?_, q⟩
    · rcases List.mem_cons.mp hm with e1 | hm
      · exact absurd (e1 ▸ Heap.lt_size eo) (Nat.lt_irrefl _)
      · cases hm
    · show Value.bool _ = Value.bool _
      rw [← any_rangeI, List.size_toArray, ← rv.length, List.length_map]
theorem r_anyQ {K : PySem.W.Frag} {H : Hp} {a : Addr} {ns : List Int} {Q : V → Hp → Prop} (h : SqI K H a ns) (q : Q (.bl (ns.any (· != 0))) H) : rAnyQ K [.ref a] H Q := ⟨a, ns, rfl, h, q⟩

end
def sp_is_code : Sp := fun vs H Q _ => ∃ i : Int, vs = [.int i] ∧ Q (.bl (goodI i)) H
theorem ok_is_code (T : Txt K mg) : FnOk P w K mg base CX0 1 T.a_is_code T.fd_is_code ["number"] sp_is_code := by
  refine T.F_is_code.ok sc_is_code (fun vs H Q E h => ?_) (fun cdv A outer s H vs Q E hr h => ?_)
  · obtain ⟨i, rfl, _⟩ := h
    rfl
  · refine ⟨_, (pss_one (ps_ret (pe_and (pe_chain op_le op_le (pe_glob rfl T.c_FIRST_CODE T.r_FIRST_CODE) (pv 0) (pe_glob rfl T.c_LAST_CODE T.r_LAST_CODE)) (pe_one (pe_cmpR op_ne (pv 0) (pe_glob rfl T.c_PERCENT T.r_PERCENT) (nomark _)))))), ?_⟩
    try dsimp only [cxOf, Cx.nox, Cx.wish]
    obtain ⟨i, rfl, q⟩ := h
    walk_at "rd"
    refine r_ite (fun c1 => ?_) (fun c1 => ?_)
    · walk_at "rd"
      refine r_ite (fun c2 => ?_) (fun c2 => ?_)
      · walk_at "rd"
        rw [goodI, decide_eq_true c1, decide_eq_true c2] at q
        exact q
      · rw [goodI_false (by omega)] at q
        exact q
    · walk_at "rd"
      rw [goodI_false (by omega)] at q
      exact q
def sp_octets_of : Sp := fun vs H Q _ => ∃ z : Str, vs = [.str z] ∧ z.length ≤ 100000 ∧ ∀ (H' : Hp) (l : Addr), Same H H' → H l = none → H' l = some (.lst ((ocs z).map V.int)) → Q (.ref l) H'
theorem ok_octets_of (T : Txt K mg) : FnOk P w K mg base CX0 1 T.a_octets_of T.fd_octets_of ["text"] sp_octets_of := by
  refine T.F_octets_of.ok sc_octets_of (fun vs H Q E h => ?_) (fun cdv A outer s H vs Q E hr h => ?_)
  · obtain ⟨z, rfl, _⟩ := h
    rfl
  · refine ⟨_, (pss_one (ps_ret (pe_lc (own := [("sign", 1)]) (g := gName 1) (tt := tYes) rfl sc_octets_of.nd (pi_str (pv 0)) (blkOk_by (own := [("sign", 1)]) (N := n_octets_of) (sc := defScope s_octets_of) (by decide +kernel)) (fun _ _ _ _ _ => pg_name (i := 1) sc_octets_of.nd rfl (Or.inl rfl)) (fun _ _ _ _ _ => pts_nil) (fun _ _ _ _ _ => (pe_callB (call_ord) (by rfl) T.n_ord (by decide +kernel) (pa_cons (pv 1) pa_nil)))))), ?_⟩
    try dsimp only [cxOf, Cx.nox, Cx.wish]
    obtain ⟨z, rfl, hl, q⟩ := h
    walk_at "rd"
    refine r_lcS (fun c => .int (c : Int)) hl rfl ?_ ?_
    · intro i c H' hc s R hR
      walk_at "rd"
      refine ⟨_, rfl, rfl, ?_⟩
      exact hR _ (L2.Same.refl _)
    · intro H' l s nl hl
      walk_at "rd"
      refine q H' l s nl ?_
      rw [hl, ocs, List.map_map]
      rfl

/-! ### number_octets, number_of -/
def sp_number_octets : Sp := fun vs H Q _ => ∃ n c : Int, vs = [.int n, .int c] ∧ 0 ≤ c ∧ c ≤ 1000 ∧ ∀ (H' : Hp) (l : Addr), Same H H' → H l = none → H' l = some (.lst ((octN n c.toNat).map V.int)) → Q (.ref l) H'
theorem ok_number_octets (T : Txt K mg) : FnOk P w K mg base CX0 1 T.a_number_octets T.fd_number_octets ["number", "count"] sp_number_octets := by
  refine T.F_number_octets.ok sc_number_octets (fun vs H Q E h => ?_) (fun cdv A outer s H vs Q E hr h => ?_)
  · obtain ⟨n, c, rfl, _⟩ := h
    rfl
  · refine ⟨_, (pss_one (ps_ret (pe_lc (own := [("place", 2)]) (g := gName 2) (tt := tYes) rfl sc_number_octets.nd (pi_range1 rfl T.n_range (pa_cons (pv 1) pa_nil)) (blkOk_by (own := [("place", 2)]) (N := n_number_octets) (sc := defScope s_number_octets) (by decide +kernel)) (fun _ _ _ _ _ => pg_name (i := 2) sc_number_octets.nd rfl (Or.inl rfl)) (fun _ _ _ _ _ => pts_nil) (fun _ _ _ _ _ => (pe_op op_andM (pe_op op_shr (pv 0) (pe_op op_mul pe_int (pv 2))) pe_int))))), ?_⟩
    try dsimp only [cxOf, Cx.nox, Cx.wish]
    obtain ⟨n, c, rfl, c0, c1, q⟩ := h
    walk_at "rd"
    refine r_lcI (fun i z => z = n / 2 ^ (8 * i) % 2 ^ 8) (by omega) rfl ?_ ?_
    · intro i H' hi s R hR
      walk_at "rd"
      refine ⟨_, 8, rfl, by decide, ?_⟩
      refine hR _ ?_
      rw [show (8 * ((0 : Int) + (i : Int))).toNat = 8 * i from by omega]
    · intro H' l zs s nl hl el hz
      refine q H' l s nl ?_
      rw [hl, ext_at el (octN_len c.toNat n) fun i x hi hx => by rw [octN_at _ _ _ hi, hz i x hx]]

/-! ### number_of, of a list or a tuple -/
theorem val_drop {ns : List Int} {i : Nat} {z : Int} (h : ns[i]? = some z) : val (ns.drop i) = val (ns.drop (i + 1)) * 256 + z := by
  obtain ⟨hi, e⟩ := List.getElem?_eq_some_iff.mp h
  rw [List.drop_eq_getElem_cons hi, e, val]
def sp_number_of (K : PySem.W.Frag) : Sp := fun args_ H Q _ => ∃ (a : Addr) (ns : List Int), args_ = [.ref a] ∧ SqI K H a ns ∧ Q (.int (val ns)) H
theorem i_number_of {K : PySem.W.Frag} {args_ : List V} {H : Hp} {Q : V → Hp → Prop} {E : XK} {a : Addr} {ns : List Int} (ev : args_ = [.ref a]) (hS : SqI K H a ns) (q : Q (.int (val ns)) H) : sp_number_of K args_ H Q E := ⟨a, ns, ev, hS, q⟩
local macro_rules | `(tactic| walk_at "ca1") => `(tactic| with_reducible (refine' Sg.i_number_of ?ev ?hS ?_; (case ev => (with_unfolding_all rfl)); (case hS => (with_unfolding_all walk_at "pr"))))

theorem ok_number_of (T : Txt K mg) : FnOk P w K mg base CX0 1 T.a_number_of T.fd_number_of ["octets"] (sp_number_of K) := by
  refine T.F_number_of.ok sc_number_of (fun vs H Q E h => ?_) (fun cdv A outer s H vs Q E hr h => ?_)
  · obtain ⟨a, ns, rfl, _⟩ := h
    rfl
  · refine ⟨_, (pss_cons (ps_set (i := 1) sc_number_of.nd rfl (Or.inl rfl) pe_int)
       (pss_cons (ps_for PassesOwn.never rfl (RT.pi_revA (by rfl) T.n_reversed (pv 0)) (pg_name (i := 2) sc_number_of.nd rfl (Or.inl rfl))
       (pss_one (ps_set (i := 1) sc_number_of.nd rfl (Or.inl rfl) (pe_op op_add (pe_op op_mul (pv 1) pe_int) (pv 2)))))
       (pss_one (ps_ret (pv 1))))), ?_⟩
    try dsimp only [cxOf, Cx.nox, Cx.wish]
    obtain ⟨a, ns, rfl, hS, q⟩ := h
    walk_at "go"
    refine ⟨_, rfl, a, ns.map V.int, rfl, ?_⟩
    have turn : ∀ (i : Nat) (x : V) (σ' : L2.St) (H' : Hp), i < (ns.map V.int).length → (ns.map V.int)[(ns.map V.int).length - 1 - i]? = some x → (∃ v2 : Option V, σ' = [some (.ref a), some (.int (val (ns.drop (ns.length - i)))), v2] ∧ H = H') →
        ∃ z : Int, x = .int z ∧ H = H' ∧ (∃ v2, σ' = [some (.ref a), some (.int (val (ns.drop (ns.length - i)))), v2]) ∧ val (ns.drop (ns.length - (i + 1))) = val (ns.drop (ns.length - i)) * 256 + z := by
      rintro i x σ' H' hi hx ⟨v2, rfl, rfl⟩
      rw [List.length_map] at hi hx
      rw [List.getElem?_map] at hx
      obtain ⟨z, hz, rfl⟩ := Option.map_eq_some_iff.mp hx
      have e := val_drop hz
      rw [show ns.length - 1 - i + 1 = ns.length - i from by omega, show ns.length - 1 - i = ns.length - (i + 1) from by omega] at e
      exact ⟨z, rfl, rfl, ⟨v2, rfl⟩, e⟩
    have start : ∃ v2 : Option V, List.set (L2.start n_number_of [V.ref a]) 1 (some (V.int 0)) = [some (.ref a), some (.int (val (ns.drop (ns.length - 0)))), v2] ∧ H = H := ⟨none, by rw [Nat.sub_zero, List.drop_length]; rfl, rfl⟩
    rcases hS with h | h
    · refine .inl ⟨h, RT.for_Itv (fun i σ' H' => ∃ v2 : Option V, σ' = [some (.ref a), some (.int (val (ns.drop (ns.length - i)))), v2] ∧ H = H') start (fun i σ' H' ⟨_, _, e⟩ => e ▸ h) (fun i x σ' H' hi hx p => ?_) (fun σ' H' p => ?_)⟩
      · obtain ⟨z, rfl, rfl, ⟨v2, rfl⟩, e⟩ := turn i x σ' H' hi hx p
        walk_at "go"
        rw [← e]
        exact ⟨_, rfl, rfl⟩
      · obtain ⟨v2, rfl, rfl⟩ := p
        rw [List.length_map, Nat.sub_self, List.drop_zero]
        walk_at "go"
        exact q
    · refine .inr ⟨h, RT.for_ItvT (fun i σ' H' => ∃ v2 : Option V, σ' = [some (.ref a), some (.int (val (ns.drop (ns.length - i)))), v2] ∧ H = H') start (fun i σ' H' ⟨_, _, e⟩ => e ▸ h) (fun i x σ' H' hi hx p => ?_) (fun σ' H' p => ?_)⟩
      · obtain ⟨z, rfl, rfl, ⟨v2, rfl⟩, e⟩ := turn i x σ' H' hi hx p
        walk_at "go"
        rw [← e]
        exact ⟨_, rfl, rfl⟩
      · obtain ⟨v2, rfl, rfl⟩ := p
        rw [List.length_map, Nat.sub_self, List.drop_zero]
        walk_at "go"
        exact q

def sp_is_text : Sp := fun vs H Q _ => ∃ z : Str, vs = [.str z] ∧ z.length ≤ 100000 ∧ ∀ H', Same H H' → Q (.bl (z.cps.toList.all goodN)) H'
theorem ok_is_text (T : Txt K mg) : FnOk P w K mg base CX0 2 T.a_is_text T.fd_is_text ["text"] sp_is_text := by
  refine T.F_is_text.ok sc_is_text (fun vs H Q E h => ?_) (fun cdv A outer s H vs Q E hr h => ?_)
  · obtain ⟨z, rfl, _⟩ := h
    rfl
  · refine ⟨_, (pss_one (ps_ret (pe_callB (cr_all rfl) (by rfl) T.n_all (by decide +kernel) (pa_cons (pe_lc (own := [("sign", 1)]) (g := gName 1) (tt := tYes) rfl sc_is_text.nd (pi_str (pv 0)) (blkOk_by (own := [("sign", 1)]) (N := n_is_text) (sc := defScope s_is_text) (by decide +kernel)) (fun _ _ _ _ _ => pg_name (i := 1) sc_is_text.nd rfl (Or.inl rfl)) (fun _ _ _ _ _ => pts_nil) (fun _ _ _ _ _ => (pe_call (ok_is_code T) (hr.mono (by decide)) rfl T.m_is_code T.F_is_code.kp T.b_is_code .nil pass0 (pa_cons (pe_callB (call_ord) (by rfl) T.n_ord (by decide +kernel) (pa_cons (pv 1) pa_nil)) pa_nil)))) pa_nil)))), ?_⟩
    try dsimp only [cxOf, Cx.nox, Cx.wish]
    obtain ⟨z, rfl, hl, q⟩ := h
    walk_at "rd"
    refine r_lcS (fun c => .bl (goodN c)) hl rfl ?_ ?_
    · intro i c H' hc s R hR
      walk_at "rd"
      refine ⟨_, rfl, rfl, ?_⟩
      walk_at "rd"
      refine ⟨(c : Int), rfl, ?_⟩
      rw [goodI_nat]
      exact hR _ (L2.Same.refl _)
    · intro H' l s nl hl
      walk_at "rd"
      refine ⟨l, z.cps.toList.map goodN, rfl, ?_, ?_⟩
      · rw [List.map_map]
        exact .of hl
      · rw [List.all_map]
        exact q H' s

theorem signs_at : ∀ n, n < 95 → n ≠ 5 → (Str.ofString " !\"#$ &'()*+,-./0123456789:;<=>?@ABCDEFGHIJKLMNOPQRSTUVWXYZ[\\]^_`abcdefghijklmnopqrstuvwxyz{|}~").cps.toList[n]? = some (n + 32) := by decide +kernel
def sp_text_of (K : PySem.W.Frag) : Sp := fun vs H Q _ => ∃ (a : Addr) (ns : List Int), vs = [.ref a] ∧ SqI K H a ns ∧ ns.length ≤ 100000 ∧
  (ns.all goodI = true → ∀ H', Same H H' → Q (.str (SX.S (ns.map Int.toNat))) H') ∧ (ns.all goodI = false → ∀ H', Same H H' → Q .non H')
theorem ok_text_of (T : Txt K mg) : FnOk P w K mg base CX0 2 T.a_text_of T.fd_text_of ["octets"] (sp_text_of K) := by
  refine T.F_text_of.ok sc_text_of (fun vs H Q E h => ?_) (fun cdv A outer s H vs Q E hr h => ?_)
  · obtain ⟨a, ns, rfl, _⟩ := h
    rfl
  · refine ⟨_, (pss_cons (ps_if (pt_not (pt_val (pe_callB (cr_all rfl) (by rfl) T.n_all (by decide +kernel) (pa_cons (pe_lc (own := [("octet", 1)]) (g := gName 1) (tt := tYes) rfl sc_text_of.nd (pi_seq (pi_list (pv 0)) (pi_tup (pv 0))) (blkOk_by (own := [("octet", 1)]) (N := n_text_of) (sc := defScope s_text_of) (by decide +kernel)) (fun _ _ _ _ _ => pg_name (i := 1) sc_text_of.nd rfl (Or.inl rfl)) (fun _ _ _ _ _ => pts_nil) (fun _ _ _ _ _ => (pe_call (ok_is_code T) (hr.mono (by decide)) rfl T.m_is_code T.F_is_code.kp T.b_is_code .nil pass0 (pa_cons (pv 1) pa_nil)))) pa_nil))))
       (pss_one (ps_ret pe_non))
       pss_nil)
       (pss_one (ps_ret (pe_join pe_str (pe_lc (own := [("octet", 1)]) (g := gName 1) (tt := tYes) rfl sc_text_of.nd (pi_seq (pi_list (pv 0)) (pi_tup (pv 0))) (blkOk_by (own := [("octet", 1)]) (N := n_text_of) (sc := defScope s_text_of) (by decide +kernel)) (fun _ _ _ _ _ => pg_name (i := 1) sc_text_of.nd rfl (Or.inl rfl)) (fun _ _ _ _ _ => pts_nil) (fun _ _ _ _ _ => (pe_ix ix_str (pe_glob rfl T.c_SIGNS T.r_SIGNS) (pe_op op_sub (pv 1) (pe_glob rfl T.c_FIRST_CODE T.r_FIRST_CODE)) (fun _ _ => rfl)))))))), ?_⟩
    try dsimp only [cxOf, Cx.nox, Cx.wish]
    obtain ⟨a, ns, rfl, hS, hl, q1, q2⟩ := h
    walk_at "rd"
    refine r_lcSeq (fun c => .bl (goodI c)) rfl hS hl rfl ?_ ?_
    · intro i c H' hc s R hR
      walk_at "rd"
      exact ⟨c, rfl, hR _ (L2.Same.refl _)⟩
    intro H1 l1 s1 nl1 hl1
    walk_at "rd"
    refine ⟨l1, ns.map goodI, rfl, ?_, ?_⟩
    · rw [List.map_map]
      exact .of hl1
    have ea : (ns.map goodI).all id = ns.all goodI := by rw [List.all_map]; rfl
    rw [ea]
    walk_at "rd"
    cases hg : ns.all goodI with
    | false =>
      walk_at "rd"
      exact q2 hg _ s1
    | true =>
      walk_at "rd"
      refine ⟨⟨_, rfl⟩, ?_⟩
      walk_at "rd"
      refine r_lcSeq (fun c => .str (SX.S [c.toNat])) rfl (hS.mono s1) hl rfl ?_ ?_
      · intro i c H' hc s R hR
        have gc := goodI_iff.mp (List.all_eq_true.mp hg c (List.mem_of_getElem? hc))
        walk_at "rd"
        have e : (Str.ofString " !\"#$ &'()*+,-./0123456789:;<=>?@ABCDEFGHIJKLMNOPQRSTUVWXYZ[\\]^_`abcdefghijklmnopqrstuvwxyz{|}~").cps.toList[(c - 32).toNat]? = some c.toNat := by
          have := signs_at (c - 32).toNat (by omega) (by omega)
          rw [show c.toNat = (c - 32).toNat + 32 from by omega]
          exact this
        have e2 : c - 32 = (((c - 32).toNat : Nat) : Int) := by omega
        refine r_ixs (c := c.toNat) (by decide +kernel) ?_ (hR _ (L2.Same.refl _))
        rw [e2]
        exact atI_nat e
      · intro H2 l2 s2 nl2 hl2
        refine ⟨SX.S [], l2, (ns.map Int.toNat).map (fun c => SX.S [c]), rfl, rfl, .inl ?_, ?_, ?_⟩
        · rw [List.map_map, List.map_map]
          exact .of hl2
        · rw [sum_ones, List.length_map, List.length_map]
          show ns.length + ns.length * 0 ≤ _
          omega
        · have ej : (ns.map Int.toNat).map (fun c => SX.S [c]) = ((ns.map Int.toNat).map (fun c => [c])).map SX.S := by
            simp only [List.map_map]
            rfl
          rw [ej, SX.join_S, joinL_one]
          exact q1 hg _ (s1.trans s2)

def sp_char : Sp := fun vs H Q _ => ∃ i : Int, vs = [.int i] ∧ ∀ c : Nat, goodN c = true → Q (.str (SX.S [c])) H
theorem chars_at : ∀ n, n < 94 → ∃ c, (Str.ofString " !\"#$&'()*+,-./0123456789:;<=>?@ABCDEFGHIJKLMNOPQRSTUVWXYZ[\\]^_`" ++ Str.ofString "abcdefghijklmnopqrstuvwxyz{|}~").cps.toList[n]? = some c ∧ goodN c = true := by
  have h : ∀ n, n < 94 → ((Str.ofString " !\"#$&'()*+,-./0123456789:;<=>?@ABCDEFGHIJKLMNOPQRSTUVWXYZ[\\]^_`" ++ Str.ofString "abcdefghijklmnopqrstuvwxyz{|}~").cps.toList[n]?.any goodN) = true := by decide +kernel
  intro n hn
  have := h n hn
  cases e : (Str.ofString " !\"#$&'()*+,-./0123456789:;<=>?@ABCDEFGHIJKLMNOPQRSTUVWXYZ[\\]^_`" ++ Str.ofString "abcdefghijklmnopqrstuvwxyz{|}~").cps.toList[n]? with
  | none => rw [e] at this; cases this
  | some c => rw [e] at this; exact ⟨c, rfl, this⟩
theorem ok_law_char (T : Txt K mg) : FnOk P w K mg base CX0 1 T.a_law_char T.fd_law_char ["number"] sp_char := by
  refine T.F_law_char.ok sc_law_char (fun vs H Q E h => ?_) (fun cdv A outer s H vs Q E hr h => ?_)
  · obtain ⟨i, rfl, _⟩ := h
    rfl
  · refine ⟨_, (pss_cons (ps_set (i := 1) sc_law_char.nd rfl (Or.inl rfl) pe_str)
       (pss_cons (ps_set (i := 1) sc_law_char.nd rfl (Or.inl rfl) (pe_op op_addT (pv 1) pe_str))
       (pss_one (ps_ret (pe_ix ix_str (pv 1) (pe_op op_mod (pe_callTy c_int (by rfl) T.n_int (by decide +kernel) (pa_cons (pv 0) pa_nil)) pe_int) (fun _ _ => rfl)))))), ?_⟩
    try dsimp only [cxOf, Cx.nox, Cx.wish]
    obtain ⟨i, rfl, q⟩ := h
    walk_at "rd"
    refine ⟨_, _, rfl, rfl, by decide +kernel, ?_⟩
    walk_at "rd"
    rename_i y hy y0 y1
    obtain ⟨c, ec, hc⟩ := chars_at y.toNat (by omega)
    refine r_ixs (c := c) (by decide +kernel) ?_ (q c hc)
    rw [show y = ((y.toNat : Nat) : Int) from by omega]
    exact atI_nat ec
def sp_ltext : Sp := fun vs H Q _ => ∃ n k : Int, vs = [.int n, .int k] ∧ 0 ≤ k ∧ k ≤ 1000 ∧ ∀ z : Str, z.length = k.toNat → z.cps.toList.all goodN = true → Q (.str z) H
theorem ok_law_text (T : Txt K mg) : FnOk P w K mg base CX0 2 T.a_law_text T.fd_law_text ["number", "count"] sp_ltext := by
  refine T.F_law_text.ok sc_law_text (fun vs H Q E h => ?_) (fun cdv A outer s H vs Q E hr h => ?_)
  · obtain ⟨n, k, rfl, _⟩ := h
    rfl
  · refine ⟨_, (pss_cons (ps_set (i := 2) sc_law_text.nd rfl (Or.inl rfl) pe_str)
       (pss_cons (ps_set (i := 0) sc_law_text.nd rfl (Or.inl rfl) (pe_callTy c_int (by rfl) T.n_int (by decide +kernel) (pa_cons (pv 0) pa_nil)))
       (pss_cons (ps_for PassesOwn.never rfl (pi_range1 rfl T.n_range (pa_cons (pv 1) pa_nil)) (pg_name (i := 3) sc_law_text.nd rfl (Or.inl rfl))
       (pss_cons (ps_set (i := 2) sc_law_text.nd rfl (Or.inl rfl) (pe_op op_addT (pv 2) (pe_call (ok_law_char T) (hr.mono (by decide)) rfl T.m_law_char T.F_law_char.kp T.b_law_char .nil pass0 (pa_cons (pe_op op_fdiv (pv 0) pe_int) pa_nil))))
       (pss_one (ps_if (pt_cmpR op_lt (pe_op op_mod (pv 3) pe_int) pe_int (nomark _))
       (pss_one (ps_set (i := 0) sc_law_text.nd rfl (Or.inl rfl) (pe_op op_fdiv (pv 0) pe_int)))
       (pss_one (ps_set (i := 0) sc_law_text.nd rfl (Or.inl rfl) (pe_op op_add (pe_op op_mul (pv 0) pe_int) (pv 3))))))))
       (pss_one (ps_ret (pv 2)))))), ?_⟩
    try dsimp only [cxOf, Cx.nox, Cx.wish]
    obtain ⟨n, k, rfl, k0, k1, q⟩ := h
    walk_at "rd"
    refine r_forR (fun i σ' H' => ∃ (n : Int) (z : Str) (v3 : Option V), σ' = [some (.int n), some (.int k), some (.str z), v3] ∧ H = H' ∧ z.length = i ∧ z.cps.toList.all goodN = true) ⟨n, _, _, rfl, rfl, by decide +kernel, by decide +kernel⟩ ?_ ?_
    · rintro i σ' H' hi ⟨n, z, v3, rfl, rfl, hz, hg⟩
      walk_at "rd"
      refine ⟨_, rfl, fun c hc => ?_⟩
      refine ⟨_, _, rfl, rfl, ?_, ?_⟩
      · rw [SX.S_len [c], hz, sz]
        simp
        omega
      have hz2 : (z ++ SX.S [c]).length = i + 1 := by
        rw [app_len, SX.S_len [c], hz]
        rfl
      have hg2 : (z ++ SX.S [c]).cps.toList.all goodN = true := by
        rw [app_tl, List.all_append, hg]
        simp [hc]
      generalize z ++ SX.S [c] = z2 at hz2 hg2
      walk_at "rd"
      refine r_ite (fun _ => ?_) (fun _ => ?_)
      · walk_at "rd"
        exact ⟨_, z2, _, rfl, rfl, hz2, hg2⟩
      · walk_at "rd"
        exact ⟨_, z2, _, rfl, rfl, hz2, hg2⟩
    · rintro σ' H' ⟨n, z, v3, rfl, rfl, hz, hg⟩
      walk_at "rd"
      exact q z hz hg

def sp_parts_of : Sp := fun vs H Q _ => ∃ n s : Int, vs = [.int n, .int s] ∧ 0 < s ∧ s < 1073741824 ∧ Q (.int ((n + s - 1) / s)) H
theorem ok_parts_of (T : Txt K mg) : FnOk P w K mg base CX0 1 T.a_parts_of T.fd_parts_of ["number", "size"] sp_parts_of := by
  refine T.F_parts_of.ok sc_parts_of (fun vs H Q E h => ?_) (fun cdv A outer s H vs Q E hr h => ?_)
  · obtain ⟨n, s, rfl, _⟩ := h
    rfl
  · refine ⟨_, (pss_one (ps_ret (pe_op op_fdiv (pe_op op_sub (pe_op op_add (pv 0) (pv 1)) pe_int) (pv 1)))), ?_⟩
    try dsimp only [cxOf, Cx.nox, Cx.wish]
    obtain ⟨n, s, rfl, h1, h2, q⟩ := h
    walk_at "rd"
    exact q
/-! ### layouts -/
/-- the numbers of a layout -/
structure Lay where
  seg : Int
  blk : Int
  size : Int
  pay : Int
  lim : Int
  last : Int
  fan : Int
  reg : Int
  dev : Int
def layOf (s b z : Int) : Lay := ⟨s, b, z, b - 1, (s - 2) * (b - 1), (s - 2) * (b - 1) + (b - 1), z / 2, (2 * (4 * ((s - 2) * (b - 1) + (b - 1)) + 6 + s) + z - 1) / z, 2 * ((2 * (4 * ((s - 2) * (b - 1) + (b - 1)) + 6 + s) + z - 1) / z) + s * b⟩
/-- three sizes that a layout can have -/
structure Fits (s b z : Int) : Prop where
  s0 : 4 ≤ s
  s1 : s ≤ 16
  b0 : 16 ≤ b
  b1 : b ≤ 32
  zz : z = 64 ∨ z = 128 ∨ z = 256
  fit : 16 + 2 * (b - 1) + ((s - 2) * (b - 1) + (b - 1) + 8 - 1) / 8 ≤ z
/-- the fields of a layout -/
structure LayFs (L : Lay) (fs : List (Str × V)) : Prop where
  seg : fs.lookup ("segments" : Str) = some (V.int L.seg)
  blk : fs.lookup ("segment_blocks" : Str) = some (V.int L.blk)
  size : fs.lookup ("block_size" : Str) = some (V.int L.size)
  pay : fs.lookup ("payload" : Str) = some (V.int L.pay)
  lim : fs.lookup ("limit" : Str) = some (V.int L.lim)
  last : fs.lookup ("last_id" : Str) = some (V.int L.last)
  fan : fs.lookup ("fan" : Str) = some (V.int L.fan)
  reg : fs.lookup ("region_blocks" : Str) = some (V.int L.reg)
  dev : fs.lookup ("device_blocks" : Str) = some (V.int L.dev)
def LayAt (C : Addr) (L : Lay) (H : Hp) (p : Addr) : Prop := ∃ dx fs, H p = some (.ins C dx fs) ∧ LayFs L fs
theorem LayAt.mono {C : Addr} {L : Lay} {H H' : Hp} {p : Addr} (s : Same H H') (h : LayAt C L H p) : LayAt C L H' p := by
  obtain ⟨dx, fs, h1, h2⟩ := h
  exact ⟨dx, fs, s _ _ h1, h2⟩
def sp_layout (C : Addr) : Sp := fun vs H Q _ => ∃ (p dx : Addr) (s b z : Int), vs = [.ref p, .int s, .int b, .int z] ∧ H p = some (.ins C dx []) ∧ Fits s b z ∧
  ∀ H' fs, (∀ q, q ≠ p → H' q = H q) → H' p = some (.ins C dx fs) → LayFs (layOf s b z) fs → Q .non H'
theorem in_sizes {z : Int} (h : z = 64 ∨ z = 128 ∨ z = 256) : (!inV (V.int z) [V.int 64, V.int 128, V.int 256]) = false := by
  rcases h with rfl | rfl | rfl <;> decide
theorem keep1 {H H1 H' : Hp} {p : Addr} {o : HO} (h : ∀ q, q ≠ p → H1 q = H q) (e : upd H1 p o = H') : ∀ q, q ≠ p → H' q = H q := fun q hq => by
  rw [← e, upd_ne hq]
  exact h q hq
theorem ok_Layout___init (T : Txt K mg) : FnOk P w K mg base CX0 2 T.a_Layout___init T.fd_Layout___init ["self", "segments", "segment_blocks", "block_size"] (sp_layout T.A_Layout) := by
  refine T.F_Layout___init.ok sc_Layout___init (fun vs H Q E h => ?_) (fun cdv A outer s H vs Q E hr h => ?_)
  · obtain ⟨p, dx, s, b, z, rfl, _⟩ := h
    rfl
  · refine ⟨_, (pss_cons (ps_if (pt_not (pt_chain op_le op_le pe_int (pv 1) pe_int))
       (pss_one ps_never)
       pss_nil)
       (pss_cons (ps_if (pt_not (pt_chain op_le op_le pe_int (pv 2) pe_int))
       (pss_one ps_never)
       pss_nil)
       (pss_cons (ps_if (pt_cmpR op_notIn_seq (pv 3) (pe_glob rfl T.c_BLOCK_SIZES T.r_BLOCK_SIZES) (by with_unfolding_all rfl))
       (pss_one ps_never)
       pss_nil)
       (pss_cons (ps_fld (pv 0) (pv 1) rfl)
       (pss_cons (ps_fld (pv 0) (pv 2) rfl)
       (pss_cons (ps_fld (pv 0) (pv 3) rfl)
       (pss_cons (ps_fld (pv 0) (pe_op op_sub (pv 2) pe_int) rfl)
       (pss_cons (ps_fld (pv 0) (pe_op op_mul (pe_op op_sub (pv 1) pe_int) (pe_fld (pv 0) rfl)) rfl)
       (pss_cons (ps_fld (pv 0) (pe_op op_add (pe_fld (pv 0) rfl) (pe_fld (pv 0) rfl)) rfl)
       (pss_cons (ps_fld (pv 0) (pe_op op_fdiv (pv 3) pe_int) rfl)
       (pss_cons (ps_fld (pv 0) (pe_call (ok_parts_of T) (hr.mono (by decide)) rfl T.m_parts_of T.F_parts_of.kp T.b_parts_of .nil pass0 (pa_cons (pe_op op_mul pe_int (pe_op op_add (pe_op op_add (pe_op op_mul pe_int (pe_fld (pv 0) rfl)) pe_int) (pv 1))) (pa_cons (pv 3) pa_nil))) rfl)
       (pss_cons (ps_fld (pv 0) (pe_op op_add (pe_op op_mul pe_int (pe_fld (pv 0) rfl)) (pe_op op_mul (pv 1) (pv 2))) rfl)
       (pss_one (ps_if (pt_cmpR op_gt (pe_op op_add (pe_op op_add (pe_glob rfl T.c_SUMMARY_HEAD T.r_SUMMARY_HEAD) (pe_op op_mul pe_int (pe_fld (pv 0) rfl))) (pe_call (ok_parts_of T) (hr.mono (by decide)) rfl T.m_parts_of T.F_parts_of.kp T.b_parts_of .nil pass0 (pa_cons (pe_fld (pv 0) rfl) (pa_cons pe_int pa_nil)))) (pv 3) (nomark _))
       (pss_one ps_never)
       pss_nil)))))))))))))), ?_⟩
    try dsimp only [cxOf, Cx.nox, Cx.wish]
    obtain ⟨p, dx, s, b, z, rfl, hp, hF, q⟩ := h
    obtain ⟨s0, s1, b0, b1, hz, fit⟩ := hF
    have cl := T.cl_Layout
    have na1 := T.na_Layout_segments
    have na2 := T.na_Layout_segment_blocks
    have na3 := T.na_Layout_block_size
    have na4 := T.na_Layout_payload
    have na5 := T.na_Layout_limit
    have na6 := T.na_Layout_last_id
    have na7 := T.na_Layout_fan
    have na8 := T.na_Layout_region_blocks
    have na9 := T.na_Layout_device_blocks
    walk_at "rdo"
    refine r_in (.inr (T.v_BLOCK_SIZES _)) rfl rfl ?_
    walk_at "rd"
    refine r_iteB (in_sizes hz) ?_
    walk_at "rdo"
    refine ⟨_, _, rfl, by omega, by omega, ?_⟩
    walk_at "rdo"
    refine ⟨_, _, rfl, by omega, by omega, ?_⟩
    walk_at "rdo"
    refine q _ _ ?kk (by walk_at "hp") ⟨by walk_at "lk", by walk_at "lk", by walk_at "lk", by walk_at "lk", by walk_at "lk", by walk_at "lk", by walk_at "lk", by walk_at "lk", by walk_at "lk"⟩
    case kk =>
      repeat (refine keep1 ?_ (by assumption))
      exact fun _ _ => rfl

theorem i_is_code  {args_ : List V} {H : Hp} {Q : V → Hp → Prop} {E : XK} {i : Int} (ev : args_ = [.int i]) (q : Q (.bl (goodI i)) H) : sp_is_code  args_ H Q E := ⟨i, ev, q⟩
local macro_rules | `(tactic| walk_at "ca1") => `(tactic| with_reducible (refine' Sg.i_is_code ?ev ?_; (case ev => (with_unfolding_all rfl))))

theorem i_octets_of  {args_ : List V} {H : Hp} {Q : V → Hp → Prop} {E : XK} {z : Str} (ev : args_ = [.str z]) (hl : z.length ≤ 100000) (q : ∀ (H' : Hp) (l : Addr), Same H H' → H l = none → H' l = some (.lst ((ocs z).map V.int)) → Q (.ref l) H') : sp_octets_of  args_ H Q E := ⟨z, ev, hl, q⟩
local macro_rules | `(tactic| walk_at "ca1") => `(tactic| with_reducible (refine' Sg.i_octets_of ?ev ?hl ?_; (case ev => (with_unfolding_all rfl)); (case hl => (with_unfolding_all walk_at "pr")); intros))

theorem i_number_octets  {args_ : List V} {H : Hp} {Q : V → Hp → Prop} {E : XK} {n c : Int} (ev : args_ = [.int n, .int c]) (c0 : 0 ≤ c) (c1 : c ≤ 1000) (q : ∀ (H' : Hp) (l : Addr), Same H H' → H l = none → H' l = some (.lst ((octN n c.toNat).map V.int)) → Q (.ref l) H') : sp_number_octets  args_ H Q E := ⟨n, c, ev, c0, c1, q⟩
local macro_rules | `(tactic| walk_at "ca1") => `(tactic| with_reducible (refine' Sg.i_number_octets ?ev ?c0 ?c1 ?_; (case ev => (with_unfolding_all rfl)); (case c0 => (with_unfolding_all walk_at "pr")); (case c1 => (with_unfolding_all walk_at "pr")); intros))

theorem i_is_text  {args_ : List V} {H : Hp} {Q : V → Hp → Prop} {E : XK} {z : Str} (ev : args_ = [.str z]) (hl : z.length ≤ 100000) (q : ∀ H', Same H H' → Q (.bl (z.cps.toList.all goodN)) H') : sp_is_text  args_ H Q E := ⟨z, ev, hl, q⟩
local macro_rules | `(tactic| walk_at "ca1") => `(tactic| with_reducible (refine' Sg.i_is_text ?ev ?hl ?_; (case ev => (with_unfolding_all rfl)); (case hl => (with_unfolding_all walk_at "pr")); intros))

theorem i_text_of {K : PySem.W.Frag} {args_ : List V} {H : Hp} {Q : V → Hp → Prop} {E : XK} {a : Addr} {ns : List Int} (ev : args_ = [.ref a]) (hS : SqI K H a ns) (hl : ns.length ≤ 100000) (q1 : (ns.all goodI = true → ∀ H', Same H H' → Q (.str (SX.S (ns.map Int.toNat))) H')) (q2 : (ns.all goodI = false → ∀ H', Same H H' → Q .non H')) : sp_text_of K args_ H Q E := ⟨a, ns, ev, hS, hl, q1, q2⟩
local macro_rules | `(tactic| walk_at "ca1") => `(tactic| with_reducible (refine' Sg.i_text_of ?ev ?hS ?hl ?q1 ?q2; (case ev => (with_unfolding_all rfl)); (case hS => (with_unfolding_all walk_at "pr")); (case hl => (with_unfolding_all walk_at "pr"))))

theorem i_char  {args_ : List V} {H : Hp} {Q : V → Hp → Prop} {E : XK} {i : Int} (ev : args_ = [.int i]) (q : ∀ c : Nat, goodN c = true → Q (.str (SX.S [c])) H) : sp_char  args_ H Q E := ⟨i, ev, q⟩
local macro_rules | `(tactic| walk_at "ca1") => `(tactic| with_reducible (refine' Sg.i_char ?ev ?_; (case ev => (with_unfolding_all rfl)); intros))

theorem i_ltext  {args_ : List V} {H : Hp} {Q : V → Hp → Prop} {E : XK} {n k : Int} (ev : args_ = [.int n, .int k]) (k0 : 0 ≤ k) (k1 : k ≤ 1000) (q : ∀ z : Str, z.length = k.toNat → z.cps.toList.all goodN = true → Q (.str z) H) : sp_ltext  args_ H Q E := ⟨n, k, ev, k0, k1, q⟩
local macro_rules | `(tactic| walk_at "ca1") => `(tactic| with_reducible (refine' Sg.i_ltext ?ev ?k0 ?k1 ?_; (case ev => (with_unfolding_all rfl)); (case k0 => (with_unfolding_all walk_at "pr")); (case k1 => (with_unfolding_all walk_at "pr")); intros))

theorem i_row {K : PySem.W.Frag} {args_ : List V} {H : Hp} {Q : V → Hp → Prop} {E : XK} {a : Addr} {ns : List Int} {k : Int} (ev : args_ = [.ref a, .int k]) (hS : SqL K H a (ns.map V.int)) (h63 : ns.length ≤ 63) (k0 : 0 ≤ k) (k1 : k ≤ 1000) (q : ∀ z : Int, 0 ≤ z → Q (.int z) H) : sp_row K args_ H Q E := ⟨a, ns, k, ev, hS, h63, k0, k1, q⟩
local macro_rules | `(tactic| walk_at "ca1") => `(tactic| with_reducible (refine' Sg.i_row ?ev ?hS ?h63 ?k0 ?k1 ?_; (case ev => (with_unfolding_all rfl)); (case hS => (with_unfolding_all walk_at "pr")); (case h63 => (with_unfolding_all walk_at "pr")); (case k0 => (with_unfolding_all walk_at "pr")); (case k1 => (with_unfolding_all walk_at "pr")); intros))


theorem strOk_good {z : Str} (h : z.cps.toList.all goodN = true) : PyData.canLay0 (.str z) = true := by
  show z.cps.all (· < 0x110000) = true
  rw [← Array.all_toList, List.all_eq_true]
  intro c hc
  have := List.all_eq_true.mp h c hc
  unfold goodN at this
  simp only [Bool.and_eq_true, decide_eq_true_eq] at this
  exact decide_eq_true (by omega)

/-! ### superblocks: the mathematics -/
structure Sb where
  size : Int
  height : Int
  root : Int
  names : List (Option Str)
def nmV : Option Str → V
  | none => .non
  | some z => .str z
def isSn (z : Str) : Bool := decide (1 ≤ (z.length : Int)) && (decide ((z.length : Int) ≤ 12) && (z.cps.toList.all goodN && !decide (32 ∈ z.cps.toList)))
theorem isSn_iff {z : Str} : isSn z = true ↔ 1 ≤ z.length ∧ z.length ≤ 12 ∧ z.cps.toList.all goodN = true ∧ 32 ∉ z.cps.toList := by
  unfold isSn
  simp only [Bool.and_eq_true, decide_eq_true_eq, Bool.not_eq_true', decide_eq_false_iff_not]
  exact ⟨fun ⟨a, b, c⟩ => ⟨by omega, by omega, c⟩, fun ⟨a, b, c⟩ => ⟨by omega, by omega, c⟩⟩
theorem ocs_len (z : Str) : (ocs z).length = z.length := by
  unfold ocs
  rw [List.length_map, len_tl]
def slotO : Option Str → List Int
  | none => List.replicate 13 0
  | some z => filI ([(z.length : Int)] ++ ocs z) 13
theorem slotO_len (o : Option Str) : (slotO o).length = 13 := by
  cases o with
  | none => rfl
  | some z => exact filI_len _ _
def partN (s : List Int) : List Int := (s.drop 1).take ((1 + s.getD 0 0).toNat - 1)
def nameI (s : List Int) : Option Str := if (partN s).all goodI = true ∧ isSn (SX.S ((partN s).map Int.toNat)) = true then some (SX.S ((partN s).map Int.toNat)) else none
theorem byte_at {ns : List Int} (hb : ∀ x ∈ ns, 0 ≤ x ∧ x < 256) (i : Nat) : 0 ≤ ns.getD i 0 ∧ ns.getD i 0 < 256 := by
  rw [List.getD_eq_getElem?_getD]
  cases e : ns[i]? with
  | none => exact ⟨Int.le_refl 0, by decide⟩
  | some x => exact hb x (List.mem_of_getElem? e)
theorem partN_len {s : List Int} (h : s.length = 13) (h0 : 0 ≤ s.getD 0 0) : (partN s).length = min (s.getD 0 0).toNat 12 := by
  unfold partN
  rw [List.length_take, List.length_drop, h]
  omega
theorem partN_at {s : List Int} (h : s.length = 13) (h0 : 0 ≤ s.getD 0 0) {k : Nat} (hk : k < 12) (hl : (k : Int) < s.getD 0 0) : (partN s)[k]? = some (s.getD (1 + k) 0) := by
  unfold partN
  generalize s.getD 0 0 = L at h0 hl ⊢
  rw [List.getElem?_take_of_lt (by omega), List.getElem?_drop, List.getD_eq_getElem?_getD, List.getElem?_eq_getElem (by omega)]
  rfl
theorem partN_ocs {s : List Int} (hb : ∀ x ∈ s, 0 ≤ x ∧ x < 256) : ocs (SX.S ((partN s).map Int.toNat)) = partN s := ocs_S fun x hx => (hb x (List.mem_of_mem_drop (List.mem_of_mem_take hx))).1
/-- a slot that is right, by its places -/
def slotP (s : List Int) : Prop := s.getD 0 0 ≤ 12 ∧ ∀ k : Nat, k < 12 → ((k : Int) < s.getD 0 0 → 33 ≤ s.getD (1 + k) 0 ∧ s.getD (1 + k) 0 ≤ 126 ∧ s.getD (1 + k) 0 ≠ 37) ∧ (s.getD 0 0 ≤ (k : Int) → s.getD (1 + k) 0 = 0)
theorem slotO_0 (z : Str) : (slotO (some z)).getD 0 0 = z.length := by
  unfold slotO
  rw [filI_at (by decide)]
  rfl
theorem slotO_k (z : Str) {k : Nat} (h : k < 12) : (slotO (some z)).getD (1 + k) 0 = (ocs z).getD k 0 := by
  unfold slotO
  rw [filI_at (by omega), List.getD_eq_getElem?_getD, List.getD_eq_getElem?_getD, List.getElem?_append_right (by simp)]
  simp
theorem slot_iff {s : List Int} (h : s.length = 13) (hb : ∀ x ∈ s, 0 ≤ x ∧ x < 256) : s = slotO (nameI s) ↔ slotP s := by
  have h0 := byte_at hb 0
  have pl := partN_len h h0.1
  have oc := partN_ocs hb
  have sl : (SX.S ((partN s).map Int.toNat)).length = (partN s).length := by rw [← ocs_len, oc]
  constructor
  · intro e
    unfold nameI at e
    split at e
    · rename_i c
      obtain ⟨c1, c2⟩ := c
      obtain ⟨l1, l2, _, l4⟩ := isSn_iff.mp c2
      generalize hz : SX.S ((partN s).map Int.toNat) = z at e oc sl l1 l2 l4
      have e0 := congrArg (fun l : List Int => l.getD 0 0) e
      simp only [slotO_0] at e0
      refine ⟨by omega, fun k hk => ⟨fun hl => ?_, fun hl => ?_⟩⟩
      · have hm := List.mem_of_getElem? (partN_at h h0.1 hk hl)
        have g := goodI_iff.mp (List.all_eq_true.mp c1 _ hm)
        have ne : s.getD (1 + k) 0 ≠ 32 := fun y => l4 (by
          rw [y, ← oc] at hm
          obtain ⟨c, hc, ec⟩ := List.mem_map.mp hm
          rw [show (32 : Nat) = c by omega]
          exact hc)
        exact ⟨by omega, g.2.1, g.2.2⟩
      · have ek := congrArg (fun l : List Int => l.getD (1 + k) 0) e
        simp only [slotO_k z hk] at ek
        rw [ek, List.getD_eq_getElem?_getD, List.getElem?_eq_none (by rw [ocs_len]; omega)]
        rfl
    · have z : ∀ i, s.getD i 0 = 0 := fun i => by
        rw [e]
        show (List.replicate 13 (0 : Int)).getD i 0 = 0
        rw [List.getD_eq_getElem?_getD, List.getElem?_replicate]
        split <;> rfl
      refine ⟨by rw [z]; decide, fun k hk => ⟨fun hl => ?_, fun _ => z _⟩⟩
      rw [z] at hl
      omega
  · rintro ⟨c1, c2⟩
    by_cases hz : s.getD 0 0 = 0
    · have e : nameI s = none := by
        unfold nameI
        rw [if_neg]
        rintro ⟨_, c⟩
        have := (isSn_iff.mp c).1
        omega
      rw [e]
      refine ext_getD h (by rfl) fun i hi => ?_
      show _ = (List.replicate 13 (0 : Int)).getD i 0
      have zr : (List.replicate 13 (0 : Int)).getD i 0 = 0 := by
        rw [List.getD_eq_getElem?_getD, List.getElem?_replicate]
        split <;> rfl
      rw [zr]
      cases i with
      | zero => exact hz
      | succ k =>
        rw [show k + 1 = 1 + k by omega]
        exact (c2 k (by omega)).2 (by omega)
    · have hg : (partN s).all goodI = true := by
        rw [List.all_eq_true]
        intro x hx
        obtain ⟨i, hi, e⟩ := List.getElem_of_mem hx
        have := partN_at h h0.1 (k := i) (by omega) (by omega)
        rw [List.getElem?_eq_getElem hi, e] at this
        cases this
        have := (c2 i (by omega)).1 (by omega)
        exact goodI_iff.mpr ⟨by omega, this.2.1, this.2.2⟩
      have hs : isSn (SX.S ((partN s).map Int.toNat)) = true := by
        refine isSn_iff.mpr ⟨by omega, by omega, by rw [← ocs_good, oc]; exact hg, fun z => ?_⟩
        have hm : (32 : Int) ∈ ocs (SX.S ((partN s).map Int.toNat)) := List.mem_map.mpr ⟨32, z, rfl⟩
        rw [oc] at hm
        obtain ⟨i, hi, e⟩ := List.getElem_of_mem hm
        have := partN_at h h0.1 (k := i) (by omega) (by omega)
        rw [List.getElem?_eq_getElem hi, e] at this
        have e2 := Option.some.inj this
        have := (c2 i (by omega)).1 (by omega)
        omega
      have e : nameI s = some (SX.S ((partN s).map Int.toNat)) := by
        unfold nameI
        rw [if_pos ⟨hg, hs⟩]
      rw [e]
      refine ext_getD h (slotO_len _) fun i hi => ?_
      cases i with
      | zero => rw [slotO_0, sl, pl]; omega
      | succ k =>
        rw [show k + 1 = 1 + k by omega, slotO_k _ (by omega), oc]
        by_cases c : (k : Int) < s.getD 0 0
        · rw [List.getD_eq_getElem?_getD (l := partN s), partN_at h h0.1 (by omega) c]
          rfl
        · rw [(c2 k (by omega)).2 (by omega), List.getD_eq_getElem?_getD, List.getElem?_eq_none (by omega)]
          rfl
def NmOk (o : Option Str) : Prop := ∀ z, o = some z → isSn z = true
theorem slot_byte {o : Option Str} (h : NmOk o) : ∀ x ∈ slotO o, 0 ≤ x ∧ x < 256 := by
  cases o with
  | none => intro x hx; cases List.eq_of_mem_replicate hx; exact ⟨Int.le_refl 0, by decide⟩
  | some z =>
    intro x hx
    obtain ⟨l1, l2, hg, _⟩ := isSn_iff.mp (h z rfl)
    obtain ⟨i, hi, e⟩ := List.getElem_of_mem hx
    rw [slotO_len] at hi
    have ev : (slotO (some z)).getD i 0 = x := by rw [List.getD_eq_getElem?_getD, List.getElem?_eq_getElem (by rw [slotO_len]; exact hi), e]; rfl
    rw [← ev]
    cases i with
    | zero => rw [slotO_0]; omega
    | succ k =>
      rw [show k + 1 = 1 + k by omega, slotO_k z (by omega), List.getD_eq_getElem?_getD]
      cases e : (ocs z)[k]? with
      | none => exact ⟨Int.le_refl 0, by decide⟩
      | some y =>
        rw [← ocs_good] at hg
        have := goodI_iff.mp (List.all_eq_true.mp hg y (List.mem_of_getElem? e))
        simp only [Option.getD_some]
        omega
theorem name_slot {o : Option Str} (h : NmOk o) : nameI (slotO o) = o := by
  have hl := slotO_len o
  have hb := slot_byte h
  cases o with
  | none => decide +kernel
  | some z =>
    obtain ⟨l1, l2, hg, h32⟩ := isSn_iff.mp (h z rfl)
    have ep : partN (slotO (some z)) = ocs z := by
      have e0 := slotO_0 z
      refine List.ext_getElem (by rw [partN_len hl (by omega), e0, ocs_len]; omega) fun i h1 h2 => ?_
      rw [ocs_len] at h2
      have := partN_at hl (k := i) (by omega) (by omega) (by omega)
      rw [List.getElem?_eq_getElem h1, slotO_k z (by omega), List.getD_eq_getElem?_getD, List.getElem?_eq_getElem (by rw [ocs_len]; exact h2)] at this
      exact Option.some.inj this
    unfold nameI
    rw [ep, ocs_back, if_pos ⟨by rw [ocs_good]; exact hg, h z rfl⟩]
def headS (sb : Sb) : List Int := octN sb.size 4 ++ [sb.height] ++ octN sb.root 2
def bodyS (sb : Sb) : List Int := headS sb ++ (sb.names.map slotO).flatten
def encS (sb : Sb) (w : Nat) : List Int := filI (bodyS sb) w
def slN (ns : List Int) (i : Nat) : List Int := (ns.drop (7 + 13 * i)).take 13
def allS (ns : List Int) : Prop := (∀ i, i < 3 → slN ns i = slotO (nameI (slN ns i))) ∧ (ns.drop 46).any (· != 0) = false
def valS (ns : List Int) : Sb := ⟨val (ns.take 4), ns.getD 4 0, val ((ns.drop 5).take 2), [nameI (slN ns 0), nameI (slN ns 1), nameI (slN ns 2)]⟩
def goodS (ns : List Int) : Prop := (∀ i, 46 ≤ i → ns.getD i 0 = 0) ∧ ∀ i, i < 3 → slotP (slN ns i)
structure SbOk (sb : Sb) : Prop where
  s0 : 0 ≤ sb.size
  s1 : sb.size < 4294967296
  h0 : 0 ≤ sb.height
  h1 : sb.height < 256
  r0 : 0 ≤ sb.root
  r1 : sb.root < 65536
  nl : sb.names.length = 3
  nm : ∀ o ∈ sb.names, NmOk o
structure SbFs (sb : Sb) (fs : List (Str × V)) (l : Addr) : Prop where
  len : fs.length ≤ 20
  size : fs.lookup ("size" : Str) = some (V.int sb.size)
  height : fs.lookup ("height" : Str) = some (V.int sb.height)
  root : fs.lookup ("root" : Str) = some (V.int sb.root)
  names : fs.lookup ("names" : Str) = some (V.ref l)
/-- a superblock and the list that holds its names -/
def SbAt (C : Addr) (sb : Sb) (H : Hp) (p l : Addr) : Prop := ∃ dx fs, H p = some (.ins C dx fs) ∧ SbFs sb fs l ∧ H l = some (.lst (sb.names.map nmV))
theorem SbAt.mono {C : Addr} {sb : Sb} {H H' : Hp} {p l : Addr} (s : Same H H') (h : SbAt C sb H p l) : SbAt C sb H' p l := by
  obtain ⟨dx, fs, h1, h2, h3⟩ := h
  exact ⟨dx, fs, s _ _ h1, h2, s _ _ h3⟩
theorem slN_len {ns : List Int} (h : 46 ≤ ns.length) {i : Nat} (hi : i < 3) : (slN ns i).length = 13 := by
  unfold slN
  rw [List.length_take, List.length_drop]
  omega
theorem slN_byte {ns : List Int} (hb : ∀ x ∈ ns, 0 ≤ x ∧ x < 256) (i : Nat) : ∀ x ∈ slN ns i, 0 ≤ x ∧ x < 256 := fun x hx => hb x (List.mem_of_mem_drop (List.mem_of_mem_take hx))
theorem slN_at (ns : List Int) (i : Nat) {k : Nat} (hk : k < 13) : (slN ns i).getD k 0 = ns.getD (7 + 13 * i + k) 0 := by
  unfold slN
  rw [List.getD_eq_getElem?_getD, List.getD_eq_getElem?_getD, List.getElem?_take_of_lt hk, List.getElem?_drop]
theorem tail_iff {ns : List Int} : (ns.drop 46).any (· != 0) = false ↔ ∀ i, 46 ≤ i → ns.getD i 0 = 0 := by
  rw [List.any_eq_false]
  constructor
  · intro h i hi
    rw [List.getD_eq_getElem?_getD]
    cases e : ns[i]? with
    | none => rfl
    | some x =>
      have : (ns.drop 46)[i - 46]? = some x := by rw [List.getElem?_drop, ← e]; congr 1; omega
      have := h x (List.mem_of_getElem? this)
      simpa using this
  · intro h x hx
    obtain ⟨i, hi, e⟩ := List.getElem_of_mem hx
    rw [List.getElem_drop] at e
    have := h (46 + i) (by omega)
    rw [List.getD_eq_getElem?_getD, List.getElem?_eq_getElem (by rw [List.length_drop] at hi; omega), e] at this
    simpa using this
theorem good_iff {ns : List Int} (h : 46 ≤ ns.length) (hb : ∀ x ∈ ns, 0 ≤ x ∧ x < 256) : goodS ns ↔ allS ns := by
  unfold goodS allS
  rw [tail_iff]
  exact ⟨fun ⟨a, b⟩ => ⟨fun i hi => (slot_iff (slN_len h hi) (slN_byte hb i)).mpr (b i hi), a⟩, fun ⟨a, b⟩ => ⟨b, fun i hi => (slot_iff (slN_len h hi) (slN_byte hb i)).mp (a i hi)⟩⟩
theorem split46 (ns : List Int) (h : 46 ≤ ns.length) : ns.take 46 = ns.take 4 ++ [ns.getD 4 0] ++ (ns.drop 5).take 2 ++ (slN ns 0 ++ (slN ns 1 ++ slN ns 2)) := by
  have e1 : (ns.drop 4).take 1 = [ns.getD 4 0] := by
    rw [List.drop_eq_getElem_cons (by omega), List.getD_eq_getElem?_getD, List.getElem?_eq_getElem (by omega)]
    rfl
  rw [← e1]
  show ns.take (4 + (1 + (2 + (13 + (13 + 13))))) = _
  unfold slN
  rw [List.take_add, List.take_add, List.take_add, List.take_add, List.take_add]
  simp only [List.drop_drop, List.append_assoc]
theorem bodyS_len {sb : Sb} (h : sb.names.length = 3) : (bodyS sb).length = 46 := by
  obtain ⟨s, t, r, ns⟩ := sb
  match ns, h with
  | [a, b, c], _ =>
    show (headS _ ++ (slotO a ++ (slotO b ++ (slotO c ++ [])))).length = 46
    simp only [headS, List.length_append, octN_len, slotO_len]
    rfl
theorem encS_eq {sb : Sb} (h : sb.names.length = 3) {w : Nat} (hw : 46 ≤ w) : encS sb w = bodyS sb ++ List.replicate (w - 46) 0 := by
  have bl := bodyS_len h
  refine ext_getD (filI_len _ _) (by rw [List.length_append, bl, List.length_replicate]; omega) fun i hi => ?_
  unfold encS
  rw [filI_at hi, List.getD_eq_getElem?_getD, List.getD_eq_getElem?_getD]
  by_cases c : i < 46
  · rw [List.getElem?_append_left (by omega)]
  · rw [List.getElem?_append_right (by omega), List.getElem?_eq_none (by omega), List.getElem?_replicate]
    split <;> rfl
theorem valS_enc {ns : List Int} {w : Nat} (h : ns.length = w) (hw : 46 ≤ w) (hb : ∀ x ∈ ns, 0 ≤ x ∧ x < 256) (ha : allS ns) : encS (valS ns) w = ns := by
  have b4 := octN_val (ns.take 4) fun x hx => hb x (List.mem_of_mem_take hx)
  have b2 := octN_val ((ns.drop 5).take 2) fun x hx => hb x (List.mem_of_mem_drop (List.mem_of_mem_take hx))
  rw [List.length_take, show min 4 ns.length = 4 by omega] at b4
  rw [List.length_take, List.length_drop, show min 2 (ns.length - 5) = 2 by omega] at b2
  have eb : bodyS (valS ns) = ns.take 46 := by
    rw [split46 ns (by omega)]
    show octN (val (ns.take 4)) 4 ++ [ns.getD 4 0] ++ octN (val ((ns.drop 5).take 2)) 2 ++ (slotO (nameI (slN ns 0)) ++ (slotO (nameI (slN ns 1)) ++ (slotO (nameI (slN ns 2)) ++ []))) = _
    rw [b4, b2, ← ha.1 0 (by decide), ← ha.1 1 (by decide), ← ha.1 2 (by decide), List.append_nil]
  rw [encS_eq rfl hw, eb]
  refine ext_getD (n := w) ?_ h fun i hi => ?_
  · rw [List.length_append, List.length_take, List.length_replicate]
    omega
  rw [List.getD_eq_getElem?_getD]
  by_cases c : i < 46
  · rw [List.getElem?_append_left (by rw [List.length_take]; omega), List.getElem?_take_of_lt c, List.getD_eq_getElem?_getD]
  · rw [List.getElem?_append_right (by rw [List.length_take]; omega), List.getElem?_replicate, tail_iff.mp ha.2 i (by omega)]
    split <;> rfl
theorem valS_ok {ns : List Int} (h : 46 ≤ ns.length) (hb : ∀ x ∈ ns, 0 ≤ x ∧ x < 256) : (valS ns).names.length = 3 ∧ ∀ o ∈ (valS ns).names, NmOk o := by
  refine ⟨rfl, fun o ho z e => ?_⟩
  have k : ∀ s : List Int, nameI s = some z → isSn z = true := fun s hs => by
    unfold nameI at hs
    split at hs
    · rename_i c
      cases hs
      exact c.2
    · cases hs
  subst e
  simp only [valS, List.mem_cons, List.not_mem_nil, or_false] at ho
  rcases ho with z1 | z1 | z1 <;> exact k _ z1.symm
theorem enc_byte {sb : Sb} (h : SbOk sb) {w : Nat} (hw : 46 ≤ w) : ∀ x ∈ encS sb w, 0 ≤ x ∧ x < 256 := by
  intro x hx
  rw [encS_eq h.nl hw] at hx
  rcases List.mem_append.mp hx with hx | hx
  · rcases List.mem_append.mp hx with hx | hx
    · rcases List.mem_append.mp hx with hx | hx
      · rcases List.mem_append.mp hx with hx | hx
        · exact octN_byte _ _ _ hx
        · rw [List.mem_singleton.mp hx]; exact ⟨h.h0, h.h1⟩
      · exact octN_byte _ _ _ hx
    · obtain ⟨l, hl, hx⟩ := List.mem_flatten.mp hx
      obtain ⟨o, ho, rfl⟩ := List.mem_map.mp hl
      exact slot_byte (h.nm o ho) x hx
  · cases List.eq_of_mem_replicate hx
    exact ⟨Int.le_refl 0, by decide⟩
/-- octets that begin as a superblock does and have nothing behind it -/
theorem dec_of {sb : Sb} (h : SbOk sb) {ns : List Int} (e : ns.take 46 = bodyS sb) (z : ∀ i, 46 ≤ i → ns.getD i 0 = 0) : allS ns ∧ valS ns = sb := by
  have bl := bodyS_len h.nl
  have nl46 : 46 ≤ ns.length := by
    have := congrArg List.length e
    rw [List.length_take, bl] at this
    omega
  obtain ⟨s, t, r, nms⟩ := sb
  obtain ⟨s0, s1, t0, t1, r0, r1, nl, hn⟩ := h
  match nms, nl with
  | [a, b, c], _ =>
    rw [split46 ns nl46] at e
    replace e : _ = octN s 4 ++ [t] ++ octN r 2 ++ (slotO a ++ (slotO b ++ (slotO c ++ []))) := e
    rw [List.append_nil] at e
    have l4 : (ns.take 4).length = 4 := by rw [List.length_take]; omega
    have l2 : ((ns.drop 5).take 2).length = 2 := by rw [List.length_take, List.length_drop]; omega
    obtain ⟨e1, e2⟩ := List.append_inj e (by simp only [List.length_append, l4, l2, octN_len, List.length_singleton])
    obtain ⟨e2, e3⟩ := List.append_inj e2 (by rw [slN_len nl46 (by decide), slotO_len])
    obtain ⟨e3, e4⟩ := List.append_inj e3 (by rw [slN_len nl46 (by decide), slotO_len])
    obtain ⟨e1, e5⟩ := List.append_inj e1 (by simp only [List.length_append, l4, octN_len, List.length_singleton])
    obtain ⟨e1, e6⟩ := List.append_inj e1 (by rw [l4, octN_len])
    have na := name_slot (hn a (by simp))
    have nb := name_slot (hn b (by simp))
    have nc := name_slot (hn c (by simp))
    refine ⟨⟨fun i hi => ?_, tail_iff.mpr z⟩, ?_⟩
    · match i, hi with
      | 0, _ => rw [e2, na]
      | 1, _ => rw [e3, nb]
      | 2, _ => rw [e4, nc]
    · unfold valS
      rw [e1, e5, e2, e3, e4, na, nb, nc, val_octN, val_octN, (List.cons.inj e6).1]
      rw [show s % 256 ^ 4 = s by simp only at s0 s1; omega, show r % 256 ^ 2 = r by simp only at r0 r1; omega]
theorem dec_enc {sb : Sb} (h : SbOk sb) {w : Nat} (hw : 46 ≤ w) : allS (encS sb w) ∧ valS (encS sb w) = sb := by
  have bl := bodyS_len h.nl
  refine dec_of h ?_ fun i hi => ?_
  · rw [encS_eq h.nl hw, List.take_append_of_le_length (by omega), List.take_of_length_le (by omega)]
  · rw [encS_eq h.nl hw, List.getD_eq_getElem?_getD, List.getElem?_append_right (by omega), List.getElem?_replicate]
    split <;> rfl
theorem dec_cut {sb : Sb} (h : SbOk sb) {w : Nat} (hw : 46 ≤ w) : allS ((encS sb w).take 46) ∧ valS ((encS sb w).take 46) = sb := by
  have bl := bodyS_len h.nl
  have e : (encS sb w).take 46 = bodyS sb := by rw [encS_eq h.nl hw, List.take_append_of_le_length (by omega), List.take_of_length_le (by omega)]
  rw [e]
  refine dec_of h (List.take_of_length_le (by omega)) fun i hi => ?_
  rw [List.getD_eq_getElem?_getD, List.getElem?_eq_none (by omega)]
  rfl
def sp_filled (K : PySem.W.Frag) : Sp := fun args_ H Q _ => ∃ (a : Addr) (ns : List Int) (c : Int), args_ = [.ref a, .int c] ∧ SqL K H a (ns.map V.int) ∧ ns.length ≤ 1000 ∧ 0 ≤ c ∧ c ≤ 1000 ∧ ∀ H' l, Same H H' → H l = none → H' l = some (.lst ((filI ns c.toNat).map V.int)) → Q (.ref l) H'
theorem i_filled {K : PySem.W.Frag} {args_ : List V} {H : Hp} {Q : V → Hp → Prop} {E : XK} {a : Addr} {ns : List Int} {c : Int} (ev : args_ = [.ref a, .int c]) (h : SqL K H a (ns.map V.int)) (hl : ns.length ≤ 1000) (c0 : 0 ≤ c) (c1 : c ≤ 1000) (q : ∀ H' l, Same H H' → H l = none → H' l = some (.lst ((filI ns c.toNat).map V.int)) → Q (.ref l) H') : sp_filled K args_ H Q E := ⟨a, ns, c, ev, h, hl, c0, c1, q⟩
local macro_rules | `(tactic| walk_at "ca1") => `(tactic| with_reducible (refine' Sg.i_filled ?ev ?h ?hl ?c0 ?c1 ?_; (case ev => (with_unfolding_all rfl)); (case h => (with_unfolding_all walk_at "pr")); (case hl => (with_unfolding_all walk_at "pr")); (case c0 => (with_unfolding_all walk_at "pr")); (case c1 => (with_unfolding_all walk_at "pr")); intros))

theorem ok_filled (T : Txt K mg) : FnOk P w K mg base CX0 1 T.a_filled T.fd_filled ["numbers", "count"] (sp_filled K) := by
  refine T.F_filled.ok sc_filled (fun vs H Q E h => ?_) (fun cdv A outer s H vs Q E hr h => ?_)
  · obtain ⟨a, ns, c, rfl, _⟩ := h
    rfl
  · refine ⟨_, (pss_one (ps_ret (pe_slice sl_list (pe_op op_cat (pe_callTy c_list (by rfl) T.n_list (by decide +kernel) (pa_cons (pv 0) pa_nil)) (pe_op op_rep (pe_lst (pa_cons pe_int pa_nil)) (pv 1))) po_none (po_some (pv 1))))), ?_⟩
    try dsimp only [cxOf, Cx.nox, Cx.wish]
    obtain ⟨a, ns, c, rfl, h, hl, c0, c1, q⟩ := h
    walk_at "go"
    rename_i l1 n1 H1 s1 g1 l2 n2 H2 s2 g2 l3 n3 H3 s3 g3 l4 n4 H4 s4 g4 l5 n5 H5 s5 g5
    refine q _ _ (by walk_at "sm") ((s1.trans (s2.trans (s3.trans s4))).free n5) ?_
    rw [g5, cut_to c0, filI, List.map_take, List.map_append, List.map_replicate]

def sp_pieces (K : PySem.W.Frag) : Sp := fun args_ H Q _ => ∃ (a : Addr) (ns : List Int) (c : Int) (n : Nat), args_ = [.ref a, .int c] ∧ SqL K H a (ns.map V.int) ∧ RgC 0 ns.length c n ∧ n ≤ 1000 ∧ 0 ≤ c ∧ ∀ (H' : Hp) (l : Addr) (rs : List Addr), Same H H' → H l = none → H' l = some (.lst (rs.map V.ref)) → rs.length = n → (∀ i r, rs[i]? = some r → H' r = some (.lst (((ns.drop (i * c.toNat)).take c.toNat).map V.int))) → Q (.ref l) H'
theorem i_pieces {K : PySem.W.Frag} {args_ : List V} {H : Hp} {Q : V → Hp → Prop} {E : XK} {a : Addr} {ns : List Int} {c : Int} {n : Nat} (ev : args_ = [.ref a, .int c]) (h : SqL K H a (ns.map V.int)) (hr : RgC 0 ns.length c n) (hn : n ≤ 1000) (hc : 0 ≤ c) (q : ∀ (H' : Hp) (l : Addr) (rs : List Addr), Same H H' → H l = none → H' l = some (.lst (rs.map V.ref)) → rs.length = n → (∀ i r, rs[i]? = some r → H' r = some (.lst (((ns.drop (i * c.toNat)).take c.toNat).map V.int))) → Q (.ref l) H') : sp_pieces K args_ H Q E := ⟨a, ns, c, n, ev, h, hr, hn, hc, q⟩
local macro_rules | `(tactic| walk_at "ca1") => `(tactic| with_reducible (refine' Sg.i_pieces ?ev ?h ?hr ?hn ?hc ?_; (case ev => (with_unfolding_all rfl)); (case h => (with_unfolding_all walk_at "pr")); (case hr => (with_unfolding_all walk_at "pr")); (case hn => (with_unfolding_all walk_at "pr")); (case hc => (with_unfolding_all walk_at "pr")); intros))

theorem ok_pieces (T : Txt K mg) : FnOk P w K mg base CX0 1 T.a_pieces T.fd_pieces ["numbers", "size"] (sp_pieces K) := by
  refine T.F_pieces.ok sc_pieces (fun vs H Q E h => ?_) (fun cdv A outer s H vs Q E hr h => ?_)
  · obtain ⟨a, ns, c, n, rfl, _⟩ := h
    rfl
  · refine ⟨_, (pss_one (ps_ret (pe_lc (own := [("start", 2)]) (g := gName 2) (tt := tYes) rfl sc_pieces.nd (pi_range3 rfl T.n_range (pa_cons pe_int (pa_cons (pe_callB (c_len) (by rfl) T.n_len (by decide +kernel) (pa_cons (pv 0) pa_nil)) (pa_cons (pv 1) pa_nil)))) (blkOk_by (own := [("start", 2)]) (N := n_pieces) (sc := defScope s_pieces) (by decide +kernel)) (fun _ _ _ _ _ => pg_name (i := 2) sc_pieces.nd rfl (Or.inl rfl)) (fun _ _ _ _ _ => pts_nil) (fun _ _ _ _ _ => (pe_slice (sl_listK (K := K) rfl) (pv 0) (po_some (pv 2)) (po_some (pe_op op_add (pv 2) (pv 1)))))))), ?_⟩
    try dsimp only [cxOf, Cx.nox, Cx.wish]
    obtain ⟨a, ns, c, n, rfl, h, hr, hn, hc, q⟩ := h
    walk_at "go"
    refine r_irng3 ?_
    walk_at "go"
    rw [List.length_map]
    refine r_kR3 hr ?_
    refine r_lcFn walk_rangeC (fun i acc H' => ∃ rs : List Addr, acc = rs.map V.ref ∧ rs.length = i ∧ ∀ j r, rs[j]? = some r → H' r = some (.lst (((ns.drop (j * c.toNat)).take c.toNat).map V.int))) (by omega) rfl ⟨[], rfl, rfl, fun j r hj => by simp at hj⟩ ?_ ?_
    · intro i acc H0 H1 hi s0 hP s1 R hR
      have h1 := (s0.trans s1).seq h
      walk_at "go"
      rename_i p np H2 s2 g2
      refine hR _ _ s2 fun D d0 d1 => ?_
      obtain ⟨rs, rfl, rl, hrs⟩ := hP
      have pD : p ≠ D := fun z => by rw [z, d1] at np; cases np
      refine ⟨rs ++ [p], by rw [List.map_append]; rfl, by rw [List.length_append, rl]; rfl, fun j r hj => ?_⟩
      rcases Nat.lt_or_ge j rs.length with y | y
      · rw [List.getElem?_append_left y] at hj
        have e := hrs j r hj
        have rD : r ≠ D := fun z => by rw [z, d0] at e; cases e
        rw [hid_ne rD]
        exact s2 _ _ (s1 _ _ e)
      · rw [List.getElem?_append_right y] at hj
        have hj1 := (List.getElem?_eq_some_iff.mp hj).1
        have j0 : j - rs.length = 0 := by simpa using hj1
        rw [j0] at hj
        cases hj
        have ic : 0 ≤ (i : Int) * c := Int.mul_nonneg (Int.natCast_nonneg i) hc
        have e1 : ((0 : Int) + (i : Nat) * c).toNat = i * c.toNat := by
          rw [Int.zero_add, Int.toNat_mul (by omega) hc]
          rfl
        have e2 : ((0 : Int) + (i : Nat) * c + c).toNat = i * c.toNat + c.toNat := by
          rw [Int.toNat_add (by omega) hc, e1]
        rw [hid_ne pD, g2, cut_both (by omega) (by omega), e1, e2, ← List.map_drop, ← List.map_take, Nat.add_sub_cancel_left]
        rw [show j = i by omega]
    · intro H' l acc s n g al hP
      obtain ⟨rs, rfl, rl, hrs⟩ := hP
      exact q _ _ rs s n g rl fun i r hi => hid_same _ _ (hrs i r hi)
def sp_Superblock___init (C : Addr) : Sp := fun args_ H Q _ => ∃ (p dx : Addr) (s t r : Int) (nms : List (Option Str)) (b : Addr), args_ = [.ref p, .int s, .int t, .int r, .ref b] ∧ H p = some (.ins C dx []) ∧ H b = some (.lst (nms.map nmV)) ∧ nms.length ≤ 10 ∧ ∀ H' l, (∀ c o, c ≠ p → H c = some o → H' c = some o) → H l = none → SbAt C ⟨s, t, r, nms⟩ H' p l → Q .non H'
theorem i_Superblock___init {C : Addr} {args_ : List V} {H : Hp} {Q : V → Hp → Prop} {E : XK} {p dx : Addr} {s t r : Int} {nms : List (Option Str)} {b : Addr} (ev : args_ = [.ref p, .int s, .int t, .int r, .ref b]) (h1 : H p = some (.ins C dx [])) (hb : H b = some (.lst (nms.map nmV))) (hl : nms.length ≤ 10) (q : ∀ H' l, (∀ c o, c ≠ p → H c = some o → H' c = some o) → H l = none → SbAt C ⟨s, t, r, nms⟩ H' p l → Q .non H') : sp_Superblock___init C args_ H Q E := ⟨p, dx, s, t, r, nms, b, ev, h1, hb, hl, q⟩
local macro_rules | `(tactic| walk_at "ca1") => `(tactic| with_reducible (refine' Sg.i_Superblock___init ?ev ?h1 ?hb ?hl ?_; (case ev => (with_unfolding_all rfl)); (case h1 => (with_unfolding_all walk_at "pr")); (case hb => (with_unfolding_all walk_at "pr")); (case hl => (with_unfolding_all walk_at "pr")); intros))

theorem ok_Superblock___init (T : Txt K mg) : FnOk P w K mg base CX0 1 T.a_Superblock___init T.fd_Superblock___init ["self", "size", "height", "root", "names"] (sp_Superblock___init T.A_Superblock) := by
  refine T.F_Superblock___init.ok sc_Superblock___init (fun vs H Q E h => ?_) (fun cdv A outer s H vs Q E hr h => ?_)
  · obtain ⟨p, dx, s, t, r, nms, b, rfl, _⟩ := h
    rfl
  · refine ⟨_, (pss_cons (ps_fld (pv 0) (pv 1) rfl)
       (pss_cons (ps_fld (pv 0) (pv 2) rfl)
       (pss_cons (ps_fld (pv 0) (pv 3) rfl)
       (pss_one (ps_fld (pv 0) (pe_callTy c_list (by rfl) T.n_list (by decide +kernel) (pa_cons (pv 4) pa_nil)) rfl))))), ?_⟩
    try dsimp only [cxOf, Cx.nox, Cx.wish]
    obtain ⟨p, dx, s, t, r, nms, b, rfl, h1, hb, hl, q⟩ := h
    have cl_Superblock := T.cl_Superblock
    have na_Superblock_height := T.na_Superblock_height
    have na_Superblock_names := T.na_Superblock_names
    have na_Superblock_root := T.na_Superblock_root
    have na_Superblock_size := T.na_Superblock_size
    walk_at "go"
    rename_i H1 e1 _ H2 e2 _ H3 e3 h3 l nl H4 s4 g4 H5 e5 h5
    have lp : l ≠ p := fun z => by rw [z, h3] at nl; cases nl
    refine q _ l (fun c o hc ho => ?_) ?_ ⟨dx, _, h5, ⟨Sg.putF_len (Sg.putF_len (Sg.putF_len (Sg.putF_len (Nat.zero_le _)))), by walk_at "lk", by walk_at "lk", by walk_at "lk", by walk_at "lk"⟩, ?_⟩
    · rw [← e5, upd_ne hc]
      exact s4 _ _ (by rw [← e3, upd_ne hc, ← e2, upd_ne hc, ← e1, upd_ne hc]; exact ho)
    · rw [← e3, upd_ne lp, ← e2, upd_ne lp, ← e1, upd_ne lp] at nl
      exact nl
    · rw [← e5, upd_ne lp]
      exact g4
def sp_is_snapshot_name  : Sp := fun args_ H Q _ => ∃ (z : Str), args_ = [.str z] ∧ z.length ≤ 100000 ∧ ∀ H', Same H H' → Q (.bl (isSn z)) H'
theorem i_is_snapshot_name  {args_ : List V} {H : Hp} {Q : V → Hp → Prop} {E : XK} {z : Str} (ev : args_ = [.str z]) (hl : z.length ≤ 100000) (q : ∀ H', Same H H' → Q (.bl (isSn z)) H') : sp_is_snapshot_name  args_ H Q E := ⟨z, ev, hl, q⟩
local macro_rules | `(tactic| walk_at "ca1") => `(tactic| with_reducible (refine' Sg.i_is_snapshot_name ?ev ?hl ?_; (case ev => (with_unfolding_all rfl)); (case hl => (with_unfolding_all walk_at "pr")); intros))

theorem ok_is_snapshot_name (T : Txt K mg) : FnOk P w K mg base CX0 3 T.a_is_snapshot_name T.fd_is_snapshot_name ["text"] sp_is_snapshot_name := by
  refine T.F_is_snapshot_name.ok sc_is_snapshot_name (fun vs H Q E h => ?_) (fun cdv A outer s H vs Q E hr h => ?_)
  · obtain ⟨z, rfl, _⟩ := h
    rfl
  · refine ⟨_, (pss_one (ps_ret (pe_and (pe_chain op_le op_le pe_int (pe_callB (c_lenS) (by rfl) T.n_len (by decide +kernel) (pa_cons (pv 0) pa_nil)) (pe_glob rfl T.c_NAME_SIGNS T.r_NAME_SIGNS)) (pe_and (pe_call (ok_is_text T) (hr.mono (by decide)) rfl T.m_is_text T.F_is_text.kp T.b_is_text .nil pass0 (pa_cons (pv 0) pa_nil)) (pe_one (pe_cmpR op_notIn_sign pe_str (pv 0) (by with_unfolding_all rfl))))))), ?_⟩
    try dsimp only [cxOf, Cx.nox, Cx.wish]
    obtain ⟨z, rfl, hl, q⟩ := h
    unfold isSn at q
    walk_at "go"
    refine r_ite (fun c1 => ?_) (fun c1 => ?_)
    case refine_2 =>
      rw [decide_eq_false c1] at q
      walk_at "go"
      exact q _ (Same.refl _)
    rw [decide_eq_true c1] at q
    walk_at "go"
    refine r_ite (fun c2 => ?_) (fun c2 => ?_)
    case refine_2 =>
      rw [decide_eq_false c2] at q
      exact q _ (Same.refl _)
    rw [decide_eq_true c2] at q
    walk_at "go"
    rename_i H1 s1
    cases ht : z.cps.toList.all goodN with
    | false =>
      rw [ht] at q
      walk_at "go"
      exact q _ s1
    | true =>
      rw [ht] at q
      walk_at "go"
      refine ⟨32, z, rfl, rfl, ?_⟩
      exact q _ s1
def sp_slot_octets (K : PySem.W.Frag) : Sp := fun args_ H Q _ => ∃ (o : Option Str), args_ = [nmV o] ∧ NmOk o ∧ ∀ H' l, Same H H' → H l = none → H' l = some (.lst ((slotO o).map V.int)) → Q (.ref l) H'
theorem i_slot_octets {K : PySem.W.Frag} {args_ : List V} {H : Hp} {Q : V → Hp → Prop} {E : XK} {o : Option Str} (ev : args_ = [nmV o]) (hn : NmOk o) (q : ∀ H' l, Same H H' → H l = none → H' l = some (.lst ((slotO o).map V.int)) → Q (.ref l) H') : sp_slot_octets K args_ H Q E := ⟨o, ev, hn, q⟩
local macro_rules | `(tactic| walk_at "ca1") => `(tactic| with_reducible (refine' Sg.i_slot_octets ?ev ?hn ?_; (case ev => (with_unfolding_all rfl)); (case hn => (with_unfolding_all walk_at "pr")); intros))

theorem ok_slot_octets (T : Txt K mg) : FnOk P w K mg base CX0 2 T.a_slot_octets T.fd_slot_octets ["name"] (sp_slot_octets K) := by
  refine T.F_slot_octets.ok sc_slot_octets (fun vs H Q E h => ?_) (fun cdv A outer s H vs Q E hr h => ?_)
  · obtain ⟨o, rfl, _⟩ := h
    rfl
  · refine ⟨_, (pss_cons (ps_if (pt_cmp (pc_isN (pv 0)) rfl)
       (pss_one (ps_ret (pe_op op_rep (pe_lst (pa_cons pe_int pa_nil)) (pe_glob rfl T.c_SLOT_OCTETS T.r_SLOT_OCTETS))))
       pss_nil)
       (pss_one (ps_ret (pe_call (ok_filled T) (hr.mono (by decide)) rfl T.m_filled T.F_filled.kp T.b_filled .nil pass0 (pa_cons (pe_op op_cat (pe_lst (pa_cons (pe_callB (c_lenS) (by rfl) T.n_len (by decide +kernel) (pa_cons (pv 0) pa_nil)) pa_nil)) (pe_call (ok_octets_of T) (hr.mono (by decide)) rfl T.m_octets_of T.F_octets_of.kp T.b_octets_of .nil pass0 (pa_cons (pv 0) pa_nil))) (pa_cons (pe_glob rfl T.c_SLOT_OCTETS T.r_SLOT_OCTETS) pa_nil)))))), ?_⟩
    try dsimp only [cxOf, Cx.nox, Cx.wish]
    obtain ⟨o, rfl, hn, q⟩ := h
    cases o with
    | none =>
      dsimp only [nmV]
      walk_at "go"
      rename_i p1 n1 H1 s1 g1 p2 n2 H2 s2 g2
      exact q _ _ (s1.trans s2) (s1.free n2) (by rw [g2]; rfl)
    | some z =>
      obtain ⟨l1, l2, hg, _⟩ := isSn_iff.mp (hn z rfl)
      have ol := ocs_len z
      dsimp only [nmV]
      walk_at "go"
      rename_i p1 n1 H1 s1 g1 H2 p2 s2 n2 g2 p3 n3 H3 s3 g3
      rw [show [V.int (z.length : Int)] ++ (ocs z).map V.int = ([(z.length : Int)] ++ ocs z).map V.int from by rw [List.map_append]; rfl] at g3
      have hl5 : ([(z.length : Int)] ++ ocs z).length ≤ 1000 := by rw [List.length_append, ol]; simp; omega
      walk_at "go"
      rename_i H4 l4 s4 n4 g4
      exact q _ _ (by walk_at "sm") ((s1.trans (s2.trans s3)).free n4) g4
def sp_name_in (K : PySem.W.Frag) : Sp := fun args_ H Q _ => ∃ (a : Addr) (ns : List Int), args_ = [.ref a] ∧ SqL K H a (ns.map V.int) ∧ ns.length = 13 ∧ (∀ x ∈ ns, 0 ≤ x ∧ x < 256) ∧ ∀ H', Same H H' → Q (nmV (nameI ns)) H'
theorem i_name_in {K : PySem.W.Frag} {args_ : List V} {H : Hp} {Q : V → Hp → Prop} {E : XK} {a : Addr} {ns : List Int} (ev : args_ = [.ref a]) (h : SqL K H a (ns.map V.int)) (hl : ns.length = 13) (hb : (∀ x ∈ ns, 0 ≤ x ∧ x < 256)) (q : ∀ H', Same H H' → Q (nmV (nameI ns)) H') : sp_name_in K args_ H Q E := ⟨a, ns, ev, h, hl, hb, q⟩
local macro_rules | `(tactic| walk_at "ca1") => `(tactic| with_reducible (refine' Sg.i_name_in ?ev ?h ?hl ?hb ?_; (case ev => (with_unfolding_all rfl)); (case h => (with_unfolding_all walk_at "pr")); (case hl => (with_unfolding_all walk_at "pr")); (case hb => (with_unfolding_all walk_at "pr")); intros))

theorem ok_name_in (T : Txt K mg) : FnOk P w K mg base CX0 4 T.a_name_in T.fd_name_in ["slot"] (sp_name_in K) := by
  refine T.F_name_in.ok sc_name_in (fun vs H Q E h => ?_) (fun cdv A outer s H vs Q E hr h => ?_)
  · obtain ⟨a, ns, rfl, _⟩ := h
    rfl
  · refine ⟨_, (pss_cons (ps_set (i := 1) sc_name_in.nd rfl (Or.inl rfl) (pe_call (ok_text_of T) (hr.mono (by decide)) rfl T.m_text_of T.F_text_of.kp T.b_text_of .nil pass0 (pa_cons (pe_slice sl_list (pv 0) (po_some pe_int) (po_some (pe_op op_add pe_int (pe_ix ix_list (pv 0) pe_int (fun _ _ => rfl))))) pa_nil)))
       (C8.pss_cut (ps_if (PW.pt (pw_or (pt_cmp (pc_isN (pv 1)) rfl) (pw_or1 (pt_not (pt_val (pe_call (ok_is_snapshot_name T) (hr.mono (by decide)) rfl T.m_is_snapshot_name T.F_is_snapshot_name.kp T.b_is_snapshot_name .nil pass0 (pa_cons (pv 1) pa_nil)))))))
       (pss_one (ps_ret pe_non))
       pss_nil)
       (pss_one (ps_ret (pv 1))))), ?_⟩
    try dsimp only [cxOf, Cx.nox, Cx.wish]
    obtain ⟨a, ns, rfl, h, hl, hb, q⟩ := h
    have b0 := byte_at hb 0
    have h0 : atI (ns.map V.int) 0 = some (.int (ns.getD 0 0)) := at_ints (k := 0) (by decide) (by omega)
    walk_at "go"
    refine r_ixl h h0 ?_
    walk_at "go"
    rename_i l2 n2 H2 s2 g2
    rw [cut_both (by decide) (by omega), ← List.map_drop, ← List.map_take] at g2
    have pl : (partN ns).length ≤ 12 := by rw [partN_len hl b0.1]; omega
    have pl2 : (partN ns).length ≤ 100000 := by omega
    have hp2 : SqI K H2 l2 (partN ns) := .inl (.of g2)
    walk_at "go"
    case q2 =>
      intro hg H3 s3
      have hn : nameI ns = none := by
        unfold nameI
        rw [if_neg]
        rintro ⟨c, _⟩
        rw [hg] at c
        cases c
      rw [hn] at q
      walk_at "go"
      refine r_cut (fun _ _ => False) ?_ (fun _ _ z => z.elim)
      walk_at "gs"
      all_goals exact q _ (s2.trans s3)
    case q1 =>
      intro hg H3 s3
      have zl : (SX.S ((partN ns).map Int.toNat)).length ≤ 100000 := by
        rw [← ocs_len, partN_ocs hb]
        exact pl2
      have hd : nameI ns = if isSn (SX.S ((partN ns).map Int.toNat)) = true then some (SX.S ((partN ns).map Int.toNat)) else none := by
        unfold nameI
        simp only [hg, true_and]
      rw [hd] at q
      walk_at "go"
      generalize SX.S ((partN ns).map Int.toNat) = z at zl q ⊢
      refine r_cut (fun σ' H' => isSn z = true ∧ σ' = [some (.ref a), some (.str z)] ∧ Same H3 H') ?_ ?_
      · walk_at "go"
        rename_i H4 s4
        cases hm : isSn z with
        | false =>
          rw [hm] at q
          walk_at "go"
          exact q _ (s2.trans (s3.trans s4))
        | true =>
          walk_at "go"
          exact ⟨rfl, rfl, s4⟩
      rintro _ H4 ⟨hm, rfl, s4⟩
      rw [hm] at q
      walk_at "go"
      exact q _ (s2.trans (s3.trans s4))
theorem r_extL {l b : Addr} {xs zs : List V} {H : Hp} {Q : V → Hp → Prop} (h : H l = some (.lst xs)) (hb : H b = some (.lst zs)) (hz : xs.length + zs.length ≤ 1000000) (q : Q .non (upd H l (.lst (xs ++ zs)))) : rExtend (.ref l) [.ref b] H Q :=
  ⟨l, b, xs, zs, rfl, rfl, h, hb, by rw [sz]; omega, q⟩
theorem slot_cut {ns : List Int} {i : Nat} (hi : i < 3) : (((ns.drop 7).take 39).drop (i * Int.toNat 13)).take (Int.toNat 13) = slN ns i := by
  show (((ns.drop 7).take 39).drop (i * 13)).take 13 = _
  unfold slN
  rw [List.drop_take, List.take_take, List.drop_drop, show min 13 (39 - i * 13) = 13 by omega, Nat.mul_comm]
theorem nameI_ok (s : List Int) : NmOk (nameI s) := fun z hs => by
  unfold nameI at hs
  split at hs
  · rename_i c
    cases hs
    exact c.2
  · cases hs
theorem flat_len (ns : List (Option Str)) : ((ns.map slotO).flatten).length = 13 * ns.length := by
  induction ns with
  | nil => rfl
  | cons o r ih => rw [List.map_cons, List.flatten_cons, List.length_append, slotO_len, ih, List.length_cons]; omega
theorem flat_snoc {ns : List (Option Str)} {i : Nat} {o : Option Str} (h : ns[i]? = some o) : ((ns.take (i + 1)).map slotO).flatten = ((ns.take i).map slotO).flatten ++ slotO o := by
  rw [List.take_add_one, h]
  simp
def sp_encode_superblock (K : PySem.W.Frag) (CL CS : Addr) : Sp := fun args_ H Q _ => ∃ (pl p l : Addr) (L : Lay) (sb : Sb), args_ = [.ref pl, .ref p] ∧ LayAt CL L H pl ∧ SbAt CS sb H p l ∧ (∀ o ∈ sb.names, NmOk o) ∧ sb.names.length = 3 ∧ 0 ≤ L.size ∧ L.size ≤ 1000 ∧ ∀ H' t, Same H H' → H' t = some (.tup ((encS sb L.size.toNat).map V.int)) → Q (.ref t) H'
theorem i_encode_superblock {K : PySem.W.Frag} {CL CS : Addr} {args_ : List V} {H : Hp} {Q : V → Hp → Prop} {E : XK} {pl p l : Addr} {L : Lay} {sb : Sb} (ev : args_ = [.ref pl, .ref p]) (h1 : LayAt CL L H pl) (h2 : SbAt CS sb H p l) (hn : (∀ o ∈ sb.names, NmOk o)) (nl : sb.names.length = 3) (z0 : 0 ≤ L.size) (z1 : L.size ≤ 1000) (q : ∀ H' t, Same H H' → H' t = some (.tup ((encS sb L.size.toNat).map V.int)) → Q (.ref t) H') : sp_encode_superblock K CL CS args_ H Q E := ⟨pl, p, l, L, sb, ev, h1, h2, hn, nl, z0, z1, q⟩
local macro_rules | `(tactic| walk_at "ca1") => `(tactic| with_reducible (refine' Sg.i_encode_superblock ?ev ?h1 ?h2 ?hn ?nl ?z0 ?z1 ?_; (case ev => (with_unfolding_all rfl)); (case h1 => (with_unfolding_all walk_at "pr")); (case h2 => (with_unfolding_all walk_at "pr")); (case hn => (with_unfolding_all walk_at "pr")); (case nl => (with_unfolding_all walk_at "pr")); (case z0 => (with_unfolding_all walk_at "pr")); (case z1 => (with_unfolding_all walk_at "pr")); intros))

theorem ok_encode_superblock (T : Txt K mg) : FnOk P w K mg base CX0 3 T.a_encode_superblock T.fd_encode_superblock ["layout", "superblock"] (sp_encode_superblock K T.A_Layout T.A_Superblock) := by
  refine T.F_encode_superblock.ok sc_encode_superblock (fun vs H Q E h => ?_) (fun cdv A outer s H vs Q E hr h => ?_)
  · obtain ⟨pl, p, l, L, sb, rfl, _⟩ := h
    rfl
  · refine ⟨_, (pss_cons (ps_set (i := 2) sc_encode_superblock.nd rfl (Or.inl rfl) (pe_op op_cat (pe_op op_cat (pe_call (ok_number_octets T) (hr.mono (by decide)) rfl T.m_number_octets T.F_number_octets.kp T.b_number_octets .nil pass0 (pa_cons (pe_fld (pv 1) rfl) (pa_cons pe_int pa_nil))) (pe_lst (pa_cons (pe_fld (pv 1) rfl) pa_nil))) (pe_call (ok_number_octets T) (hr.mono (by decide)) rfl T.m_number_octets T.F_number_octets.kp T.b_number_octets .nil pass0 (pa_cons (pe_fld (pv 1) rfl) (pa_cons pe_int pa_nil)))))
       (pss_cons (ps_for PassesOwn.never rfl (pi_list (pe_fld (pv 1) rfl)) (pg_name (i := 3) sc_encode_superblock.nd rfl (Or.inl rfl))
       (pss_one (ps_expr (pe_bm PySem.F.plainAttrs_list PySem.F.slot_list_extend PySem.F.type_list_extend mt_extend (pv 2) (pa_cons (pe_call (ok_slot_octets T) (hr.mono (by decide)) rfl T.m_slot_octets T.F_slot_octets.kp T.b_slot_octets .nil pass0 (pa_cons (pv 3) pa_nil)) pa_nil)))))
       (pss_one (ps_ret (pe_callTy c_tuple (by rfl) T.n_tuple (by decide +kernel) (pa_cons (pe_call (ok_filled T) (hr.mono (by decide)) rfl T.m_filled T.F_filled.kp T.b_filled .nil pass0 (pa_cons (pv 2) (pa_cons (pe_fld (pv 0) rfl) pa_nil))) pa_nil)))))), ?_⟩
    try dsimp only [cxOf, Cx.nox, Cx.wish]
    obtain ⟨pl, p, l, L, sb, rfl, h1, h2, hn, nl, z0, z1, q⟩ := h
    have cl_Layout := T.cl_Layout
    have cl_Superblock := T.cl_Superblock
    have na_Layout_block_size := T.na_Layout_block_size
    have na_Superblock_height := T.na_Superblock_height
    have na_Superblock_names := T.na_Superblock_names
    have na_Superblock_root := T.na_Superblock_root
    have na_Superblock_size := T.na_Superblock_size
    obtain ⟨dl, fl, gl, FL⟩ := h1
    obtain ⟨dx, fs, gp, F, gn⟩ := h2
    have f0 := F.len
    have f1 := F.size
    have f2 := F.height
    have f3 := F.root
    have f4 := F.names
    have f5 := FL.size
    have ol4 : (octN sb.size (Int.toNat 4)).length = 4 := octN_len _ _
    have ol2 : (octN sb.root (Int.toNat 2)).length = 2 := octN_len _ _
    walk_at "go"
    rename_i H1 l1 s1 n1 g1 l2 n2 H2 s2 g2 l3 n3 H3 s3 g3 H4 l4 s4 n4 g4 lo n5 H5 s5 g5
    have S5 : Same H H5 := by walk_at "sm"
    have N5 : H lo = none := (s1.trans (s2.trans (s3.trans s4))).free n5
    rw [show (octN sb.size (Int.toNat 4)).map V.int ++ [V.int sb.height] ++ (octN sb.root (Int.toNat 2)).map V.int = (headS sb).map V.int from by unfold headS; rw [List.map_append, List.map_append]; rfl] at g5
    have hl7 : (headS sb).length = 7 := by unfold headS; simp only [List.length_append, octN_len]; rfl
    clear g1 g2 g3 g4 n1 n2 n3 n4 s1 s2 s3 s4 s5 ol4 ol2
    have gn5 := S5 _ _ gn
    refine r_forL (xs := sb.names.map nmV) (fun i σ' H' => ∃ v3 : Option V, σ' = [some (.ref pl), some (.ref p), some (.ref lo), v3] ∧ Same H H' ∧ H' lo = some (.lst ((headS sb ++ ((sb.names.take i).map slotO).flatten).map V.int))) ⟨_, rfl, S5, by simpa using g5⟩ (fun i σ' H' _ ⟨_, _, s, _⟩ => .of (s _ _ gn)) ?_ ?_
    · rintro i x σ' H' hx ⟨v3, rfl, s, g⟩
      rw [List.getElem?_map] at hx
      obtain ⟨o, ho, rfl⟩ := Option.map_eq_some_iff.mp hx
      have hno := hn o (List.mem_of_getElem? ho)
      have hi : i < 3 := by rw [← nl]; exact (List.getElem?_eq_some_iff.mp ho).1
      walk_at "go"
      rename_i H6 l6 s6 n6 g6
      refine r_extL (s6 _ _ g) g6 ?_ ?_
      · rw [List.length_map, List.length_map, List.length_append, hl7, flat_len, slotO_len, List.length_take]
        omega
      rw [← List.map_append, List.append_assoc, ← flat_snoc ho]
      generalize hH : upd _ _ _ = H7
      exact ⟨_, rfl, Same.old (s.trans s6) N5 hH, Sg.at_new hH⟩
    · rintro σ' H' ⟨v3, rfl, s, g⟩
      rw [List.length_map, List.take_length] at g
      have bl : (headS sb ++ (sb.names.map slotO).flatten).length ≤ 1000 := by rw [List.length_append, hl7, flat_len, nl]; decide
      have gl' := s _ _ gl
      walk_at "go"
      rename_i H6 l6 s6 n6 g6 t n7 H7 s7 g7
      exact q _ _ (s.trans (s6.trans s7)) g7
theorem head_cut (ns : List Int) : cutV (ns.map V.int) (some 7) (some 46) = (((ns.drop 7).take 39).map V.int) := by
  rw [cut_both (by decide) (by decide), ← List.map_drop, ← List.map_take]
  rfl
def sp_decode_superblock (K : PySem.W.Frag) (C : Addr) : Sp := fun args_ H Q _ => ∃ (a : Addr) (ns : List Int), args_ = [.ref a] ∧ SqI K H a ns ∧ 46 ≤ ns.length ∧ ns.length ≤ 1000 ∧ (∀ x ∈ ns, 0 ≤ x ∧ x < 256) ∧ ((allS ns → ∀ H' p l, Same H H' → H p = none → SbAt C (valS ns) H' p l → Q (.ref p) H')) ∧ (¬ allS ns → ∀ H', Same H H' → Q .non H')
theorem i_decode_superblock {K : PySem.W.Frag} {C : Addr} {args_ : List V} {H : Hp} {Q : V → Hp → Prop} {E : XK} {a : Addr} {ns : List Int} (ev : args_ = [.ref a]) (h : SqI K H a ns) (hl : 46 ≤ ns.length) (hl2 : ns.length ≤ 1000) (hb : (∀ x ∈ ns, 0 ≤ x ∧ x < 256)) (q1 : (allS ns → ∀ H' p l, Same H H' → H p = none → SbAt C (valS ns) H' p l → Q (.ref p) H')) (q2 : (¬ allS ns → ∀ H', Same H H' → Q .non H')) : sp_decode_superblock K C args_ H Q E := ⟨a, ns, ev, h, hl, hl2, hb, q1, q2⟩
local macro_rules | `(tactic| walk_at "ca1") => `(tactic| with_reducible (refine' Sg.i_decode_superblock ?ev ?h ?hl ?hl2 ?hb ?q1 ?q2; (case ev => (with_unfolding_all rfl)); (case h => (with_unfolding_all walk_at "pr")); (case hl => (with_unfolding_all walk_at "pr")); (case hl2 => (with_unfolding_all walk_at "pr")); (case hb => (with_unfolding_all walk_at "pr"))))

theorem ok_decode_superblock (T : Txt K mg) : FnOk P w K mg base CX0 5 T.a_decode_superblock T.fd_decode_superblock ["octets"] (sp_decode_superblock K T.A_Superblock) := by
  refine T.F_decode_superblock.ok sc_decode_superblock (fun vs H Q E h => ?_) (fun cdv A outer s H vs Q E hr h => ?_)
  · obtain ⟨a, ns, rfl, _⟩ := h
    rfl
  · refine ⟨_, (pss_cons (ps_set (i := 1) sc_decode_superblock.nd rfl (Or.inl rfl) (pe_lst pa_nil))
       (pss_cons (ps_for PassesOwn.never rfl (pi_list (pe_call (ok_pieces T) (hr.mono (by decide)) rfl T.m_pieces T.F_pieces.kp T.b_pieces .nil pass0 (pa_cons (pe_callTy c_list (by rfl) T.n_list (by decide +kernel) (pa_cons (pe_slice sl_seq (pv 0) (po_some (pe_glob rfl T.c_NAMES_START T.r_NAMES_START)) (po_some (pe_glob rfl T.c_NAMES_END T.r_NAMES_END))) pa_nil)) (pa_cons (pe_glob rfl T.c_SLOT_OCTETS T.r_SLOT_OCTETS) pa_nil)))) (pg_name (i := 2) sc_decode_superblock.nd rfl (Or.inl rfl))
       (pss_cons (ps_set (i := 3) sc_decode_superblock.nd rfl (Or.inl rfl) (pe_call (ok_name_in T) (hr.mono (by decide)) rfl T.m_name_in T.F_name_in.kp T.b_name_in .nil pass0 (pa_cons (pv 2) pa_nil)))
       (pss_cons (ps_if (pt_cmpR (op_neD hr.units) (pv 2) (pe_call (ok_slot_octets T) (hr.mono (by decide)) rfl T.m_slot_octets T.F_slot_octets.kp T.b_slot_octets .nil pass0 (pa_cons (pv 3) pa_nil)) (nomark _))
       (pss_one (ps_ret pe_non))
       pss_nil)
       (pss_one (ps_expr (pe_bm PySem.F.plainAttrs_list PySem.F.slot_list_append PySem.F.type_list_append mt_append (pv 1) (pa_cons (pv 3) pa_nil)))))))
       (pss_cons (ps_if (pt_val (pe_callB (cr_anyQ rfl) (by rfl) T.n_any (by decide +kernel) (pa_cons (pe_slice sl_seq (pv 0) (po_some (pe_glob rfl T.c_NAMES_END T.r_NAMES_END)) po_none) pa_nil)))
       (pss_one (ps_ret pe_non))
       pss_nil)
       (pss_one (ps_ret (pe_make T.M_Superblock (ok_Superblock___init T) (hr.mono (by decide)) rfl T.m_Superblock T.b_Superblock___init .nil pass0 (pa_cons (pe_call (ok_number_of T) (hr.mono (by decide)) rfl T.m_number_of T.F_number_of.kp T.b_number_of .nil pass0 (pa_cons (pe_slice sl_seq (pv 0) (po_some pe_int) (po_some pe_int)) pa_nil)) (pa_cons (pe_ix ix_seq (pv 0) pe_int (fun _ _ => rfl)) (pa_cons (pe_call (ok_number_of T) (hr.mono (by decide)) rfl T.m_number_of T.F_number_of.kp T.b_number_of .nil pass0 (pa_cons (pe_slice sl_seq (pv 0) (po_some pe_int) (po_some pe_int)) pa_nil)) (pa_cons (pv 1) pa_nil)))))))))), ?_⟩
    try dsimp only [cxOf, Cx.nox, Cx.wish]
    obtain ⟨a, ns, rfl, h, hl, hl2, hb, q1, q2⟩ := h
    have cl_Superblock := T.cl_Superblock
    walk_at "go"
    rename_i pn nn H1 s1 g1
    refine r_slQ (h.mono s1) (fun z => by have := z.1; rw [sIx_nn (by decide)] at this; replace this : min 7 ns.length = 0 := this; omega) fun H2 p2 s2 n2 hp2 => ?_
    have hp2 := hp2 ((ns.drop 7).take 39) (head_cut ns)
    walk_at "go"
    refine ⟨p2, _, rfl, hp2, ?_⟩
    walk_at "al"
    rename_i l3 n3 H3 s3 g3
    have l39 : ((ns.drop 7).take 39).length = 39 := by rw [List.length_take, List.length_drop]; omega
    have hr3 : RgC 0 ((ns.drop 7).take 39).length 13 3 := by rw [l39]; exact ⟨by decide, by decide, by decide, by decide⟩
    walk_at "go"
    rename_i H4 l4 rs s4 n4 g4 rl hrs
    have gn3 := s3 _ _ (s2 _ _ g1)
    have gn4 := s4 _ _ gn3
    have ln4 : l4 ≠ pn := fun z => by rw [z, gn3] at n4; cases n4
    have S4 : Same H H4 := s1.trans (s2.trans (s3.trans s4))
    have hrn : ∀ (i : Nat) (r : Addr), rs[i]? = some r → r ≠ pn ∧ H4 r = some (.lst ((slN ns i).map V.int)) := fun i r hi => by
      have e := hrs i r hi
      have i3 : i < 3 := by rw [← rl]; exact (List.getElem?_eq_some_iff.mp hi).1
      rw [slot_cut i3] at e
      refine ⟨fun z => ?_, e⟩
      rw [z, gn4] at e
      have := congrArg List.length (HO.lst.inj (Option.some.inj e))
      rw [List.length_map, slN_len hl i3] at this
      cases this
    clear hrs s1 s2 s3 s4 g3 n3 hp2 hr3 l39 n2 gn3 n4
    refine r_forL (xs := rs.map V.ref) (fun i σ' H' => ∃ v2 v3 : Option V, σ' = [some (.ref a), some (.ref pn), v2, v3] ∧ Same (hid pn H4) H' ∧ H' pn = some (.lst ((List.range i).map fun k => nmV (nameI (slN ns k)))) ∧ ∀ k, k < i → slN ns k = slotO (nameI (slN ns k))) ⟨_, _, rfl, hid_same, gn4, fun k hk => absurd hk (Nat.not_lt_zero _)⟩ (fun i σ' H' _ ⟨_, _, _, s, _⟩ => .of (s _ _ (by rw [hid_ne ln4]; exact g4))) ?_ ?_
    · rintro i x σ' H5 hx ⟨v2, v3, rfl, s, g, hall⟩
      rw [List.getElem?_map] at hx
      obtain ⟨r, hr, rfl⟩ := Option.map_eq_some_iff.mp hx
      have i3 : i < 3 := by rw [← rl]; exact (List.getElem?_eq_some_iff.mp hr).1
      obtain ⟨rp, er⟩ := hrn i r hr
      have e5 := s _ _ (show hid pn H4 r = _ by rw [hid_ne rp]; exact er)
      have sl := slN_len hl i3
      have sb := slN_byte hb i
      have no := nameI_ok (slN ns i)
      have hS5 : SqL K H5 r ((slN ns i).map V.int) := .of e5
      have S5 : Same H H5 := fun b o e => s _ _ (by rw [hid_ne (fun z => by rw [z, nn] at e; cases e)]; exact S4 _ _ e)
      walk_at "go"
      rename_i H6 s6 H7 l7 s7 n7 g7
      refine r_ned (Dp.ints (.of (s7 _ _ (s6 _ _ e5)))) (Dp.ints (.of g7)) (Fl.intlS _) (Fl.intlS _) ?_
      rw [eqv_ints]
      have s67 := s6.trans s7
      have g' := s67 _ _ g
      walk_at "go"
      refine r_iteN (fun ne => ?_) (fun e => ?_)
      · walk_at "go"
        exact q2 (fun z => ne (z.1 i i3)) _ (S5.trans s67)
      · walk_at "go"
        rename_i H8 e8 g8
        refine ⟨_, _, rfl, fun b o eb => ?_, ?_, fun k hk => ?_⟩
        · have bn : b ≠ pn := fun z => by rw [z, hid_at] at eb; cases eb
          rw [← e8, upd_ne bn]
          exact s67 _ _ (s _ _ eb)
        · rw [g8, List.range_succ, List.map_append]
          rfl
        · rcases Nat.lt_or_ge k i with y | y
          · exact hall k y
          · rw [show k = i by omega]
            exact e
    · rintro σ' H5 ⟨v2, v3, rfl, s, g, hall⟩
      rw [List.length_map, rl] at g hall
      have S5 : Same H H5 := fun b o e => s _ _ (by rw [hid_ne (fun z => by rw [z, nn] at e; cases e)]; exact S4 _ _ e)
      have h5 := h.mono S5
      walk_at "go"
      refine r_slQ h5 (fun z => by have := z.1; rw [sIx_nn (by decide)] at this; replace this : min 46 ns.length = 0 := this; omega) fun H6 p6 s6 n6 hp6 => ?_
      have hp6 := hp6 (ns.drop 46) (by rw [cut_from (by decide), ← List.map_drop]; rfl)
      refine r_anyQ hp6 ?_
      have S6 := S5.trans s6
      have h6 := h5.mono s6
      have g6 := s6 _ _ g
      cases ha : (ns.drop 46).any (· != 0) with
      | true =>
        walk_at "go"
        exact q2 (fun z => by have := z.2; rw [ha] at this; cases this) _ S6
      | false =>
        have hA : allS ns := ⟨hall, ha⟩
        clear hp6 n6 s6 s h5 hall hrn gn4 g1 S4 S5
        walk_at "go"
        refine r_slQ h6 (fun z => by have := z.2; rw [sIx_nn (by decide)] at this; replace this : min 4 ns.length = ns.length := this; omega) fun H7 p7 s7 n7 hp7 => ?_
        have hp7 := hp7 (ns.take 4) (by rw [cut_both (by decide) (by decide), ← List.map_drop, ← List.map_take]; rfl)
        walk_at "go"
        have h7 := h6.mono s7
        refine r_ixQ h7 (at_ints (k := 4) (by decide) (by omega)) ?_
        walk_at "go"
        refine r_slQ h7 (fun z => by have := z.1; rw [sIx_nn (by decide)] at this; replace this : min 5 ns.length = 0 := this; omega) fun H8 p8 s8 n8 hp8 => ?_
        have hp8 := hp8 ((ns.drop 5).take 2) (by rw [cut_both (by decide) (by decide), ← List.map_drop, ← List.map_take]; rfl)
        have g8 := s8 _ _ (s7 _ _ g6)
        walk_at "go"
        intro x dx nx nd ne
        have px : pn ≠ x := fun z => by rw [z, nx] at g8; cases g8
        have pd : pn ≠ dx := fun z => by rw [z, nd] at g8; cases g8
        refine i_Superblock___init rfl (nms := [nameI (slN ns 0), nameI (slN ns 1), nameI (slN ns 2)]) upd_same (by rw [upd_ne px, upd_ne pd]; exact g8) (by simp) fun H' l k nl hS => ⟨rfl, ?_⟩
        have s9 : Same H8 H' := fun c o e => by
          have cx : c ≠ x := fun z => by rw [z, nx] at e; cases e
          have cd : c ≠ dx := fun z => by rw [z, nd] at e; cases e
          exact k c o cx (by rw [upd_ne cx, upd_ne cd]; exact e)
        have S9 := S6.trans (s7.trans s8)
        exact q1 hA _ _ _ (S9.trans s9) (S9.free nx) hS
def sp_law_is  : Sp := fun args_ H Q _ => ∃ (b : Bool), args_ = [.bl b, .bl b] ∧ Q (.bl true) H
theorem i_law_is  {args_ : List V} {H : Hp} {Q : V → Hp → Prop} {E : XK} {b : Bool} (ev : args_ = [.bl b, .bl b]) (q : Q (.bl true) H) : sp_law_is  args_ H Q E := ⟨b, ev, q⟩
local macro_rules | `(tactic| walk_at "ca1") => `(tactic| with_reducible (refine' Sg.i_law_is ?ev ?_; (case ev => (with_unfolding_all rfl))))

theorem ok_law_is (T : Txt K mg) : FnOk P w K mg base CX0 1 T.a_law_is T.fd_law_is ["actual", "due"] sp_law_is := by
  refine T.F_law_is.ok sc_law_is (fun vs H Q E h => ?_) (fun cdv A outer s H vs Q E hr h => ?_)
  · obtain ⟨b, rfl, _⟩ := h
    rfl
  · refine ⟨_, (pss_one (ps_ret (pe_and (pe_callB (call_isi) (by rfl) T.n_isinstance (by decide +kernel) (pa_cons (pv 0) (pa_cons (pe_bltn (v := .ty "bool") (by rfl) T.n_bool (by decide +kernel) rfl) pa_nil))) (pe_one (pe_cmpR op_eq (pv 0) (pv 1) (nomark _)))))), ?_⟩
    try dsimp only [cxOf, Cx.nox, Cx.wish]
    obtain ⟨b, rfl, q⟩ := h
    walk_at "go"
    rw [decide_eq_true rfl]
    exact q
def sp_law_layout (C : Addr) : Sp := fun args_ H Q _ => ∃ (r : Int), args_ = [.int r] ∧ ∀ (s b z : Int) (H' : Hp) (p : Addr), Fits s b z → Same H H' → H p = none → LayAt C (layOf s b z) H' p → Q (.ref p) H'
theorem i_law_layout {C : Addr} {args_ : List V} {H : Hp} {Q : V → Hp → Prop} {E : XK} {r : Int} (ev : args_ = [.int r]) (q : ∀ (s b z : Int) (H' : Hp) (p : Addr), Fits s b z → Same H H' → H p = none → LayAt C (layOf s b z) H' p → Q (.ref p) H') : sp_law_layout C args_ H Q E := ⟨r, ev, q⟩
local macro_rules | `(tactic| walk_at "ca1") => `(tactic| with_reducible (refine' Sg.i_law_layout ?ev ?_; (case ev => (with_unfolding_all rfl)); intros))

theorem ok_law_layout (T : Txt K mg) : FnOk P w K mg base CX0 4 T.a_law_layout T.fd_law_layout ["number"] (sp_law_layout T.A_Layout) := by
  refine T.F_law_layout.ok sc_law_layout (fun vs H Q E h => ?_) (fun cdv A outer s H vs Q E hr h => ?_)
  · obtain ⟨r, rfl, _⟩ := h
    rfl
  · refine ⟨_, (pss_cons (ps_set (i := 1) sc_law_layout.nd rfl (Or.inl rfl) (pe_lst (pa_cons (pe_tup (pa_cons pe_int (pa_cons pe_int (pa_cons pe_int pa_nil)))) (pa_cons (pe_tup (pa_cons pe_int (pa_cons pe_int (pa_cons pe_int pa_nil)))) (pa_cons (pe_tup (pa_cons pe_int (pa_cons pe_int (pa_cons pe_int pa_nil)))) (pa_cons (pe_tup (pa_cons pe_int (pa_cons pe_int (pa_cons pe_int pa_nil)))) (pa_cons (pe_tup (pa_cons pe_int (pa_cons pe_int (pa_cons pe_int pa_nil)))) (pa_cons (pe_tup (pa_cons pe_int (pa_cons pe_int (pa_cons pe_int pa_nil)))) pa_nil))))))))
       (pss_cons (ps_set (i := 2) sc_law_layout.nd rfl (Or.inl rfl) (pe_ix ix_list (pv 1) (pe_op op_mod (pe_callTy c_int (by rfl) T.n_int (by decide +kernel) (pa_cons (pv 0) pa_nil)) pe_int) (fun _ _ => rfl)))
       (pss_one (ps_ret (pe_make T.M_Layout (ok_Layout___init T) (hr.mono (by decide)) rfl T.m_Layout T.b_Layout___init .nil pass0 (pa_cons (pe_ix ix_tup (pv 2) pe_int (fun _ _ => rfl)) (pa_cons (pe_ix ix_tup (pv 2) pe_int (fun _ _ => rfl)) (pa_cons (pe_ix ix_tup (pv 2) pe_int (fun _ _ => rfl)) pa_nil)))))))), ?_⟩
    try dsimp only [cxOf, Cx.nox, Cx.wish]
    obtain ⟨r, rfl, q⟩ := h
    have cl_Layout := T.cl_Layout
    walk_at "rd"
    rename_i t1 n1 H1 s1 h1 t2 n2 H2 s2 h2 t3 n3 H3 s3 h3 t4 n4 H4 s4 h4 t5 n5 H5 s5 h5 t6 n6 H6 s6 h6 ml nl Hm sm hm y hy y0 y1
    obtain ⟨s, b, z, t, et, ht, hF⟩ : ∃ (s b z : Int) (t : Addr), atI [V.ref t1, .ref t2, .ref t3, .ref t4, .ref t5, .ref t6] y = some (.ref t) ∧ Hm t = some (.tup [.int s, .int b, .int z]) ∧ Fits s b z := by
      rcases (by omega : y = 0 ∨ y = 1 ∨ y = 2 ∨ y = 3 ∨ y = 4 ∨ y = 5) with rfl | rfl | rfl | rfl | rfl | rfl
      · exact ⟨4, 16, 64, t1, rfl, by walk_at "hp", ⟨by decide, by decide, by decide, by decide, by decide, by decide⟩⟩
      · exact ⟨10, 16, 64, t2, rfl, by walk_at "hp", ⟨by decide, by decide, by decide, by decide, by decide, by decide⟩⟩
      · exact ⟨5, 19, 64, t3, rfl, by walk_at "hp", ⟨by decide, by decide, by decide, by decide, by decide, by decide⟩⟩
      · exact ⟨4, 16, 128, t4, rfl, by walk_at "hp", ⟨by decide, by decide, by decide, by decide, by decide, by decide⟩⟩
      · exact ⟨8, 24, 128, t5, rfl, by walk_at "hp", ⟨by decide, by decide, by decide, by decide, by decide, by decide⟩⟩
      · exact ⟨16, 32, 256, t6, rfl, by walk_at "hp", ⟨by decide, by decide, by decide, by decide, by decide, by decide⟩⟩
    refine r_ixl (by walk_at "hp") et ?_
    have sM : Same H Hm := by walk_at "sm"
    clear s1 s2 s3 s4 s5 s6 sm h1 h2 h3 h4 h5 h6 hm n1 n2 n3 n4 n5 n6 nl
    walk_at "rd"
    intro x dx nx nd ne
    refine ⟨x, dx, _, _, _, rfl, upd_same, hF, fun H3 fs k h3 hL => ⟨rfl, ?_⟩⟩
    have s3 := made_same nx nd k
    exact q _ _ _ _ _ hF (sM.trans s3) (sM.free nx) ⟨_, _, h3, hL⟩
theorem S_space : Str.ofString " " = SX.S [32] := by decide +kernel
theorem S_bang : Str.ofString "!" = SX.S [33] := by decide +kernel
def sp_law_name  : Sp := fun args_ H Q _ => ∃ (n : Int), args_ = [.int n] ∧ 0 ≤ n ∧ ∀ z, isSn z = true → Q (.str z) H
theorem i_law_name  {args_ : List V} {H : Hp} {Q : V → Hp → Prop} {E : XK} {n : Int} (ev : args_ = [.int n]) (n0 : 0 ≤ n) (q : ∀ z, isSn z = true → Q (.str z) H) : sp_law_name  args_ H Q E := ⟨n, ev, n0, q⟩
local macro_rules | `(tactic| walk_at "ca1") => `(tactic| with_reducible (refine' Sg.i_law_name ?ev ?n0 ?_; (case ev => (with_unfolding_all rfl)); (case n0 => (with_unfolding_all walk_at "pr")); intros))

theorem ok_law_name (T : Txt K mg) : FnOk P w K mg base CX0 3 T.a_law_name T.fd_law_name ["number"] sp_law_name := by
  refine T.F_law_name.ok sc_law_name (fun vs H Q E h => ?_) (fun cdv A outer s H vs Q E hr h => ?_)
  · obtain ⟨n, rfl, _⟩ := h
    rfl
  · refine ⟨_, (pss_cons (ps_set (i := 1) sc_law_name.nd rfl (Or.inl rfl) pe_str)
       (pss_cons (ps_for PassesOwn.never rfl (pi_str (pe_call (ok_law_text T) (hr.mono (by decide)) rfl T.m_law_text T.F_law_text.kp T.b_law_text .nil pass0 (pa_cons (pe_op op_fdiv (pe_callTy c_int (by rfl) T.n_int (by decide +kernel) (pa_cons (pv 0) pa_nil)) pe_int) (pa_cons (pe_op op_add pe_int (pe_op op_mod (pe_callTy c_int (by rfl) T.n_int (by decide +kernel) (pa_cons (pv 0) pa_nil)) pe_int)) pa_nil)))) (pg_name (i := 2) sc_law_name.nd rfl (Or.inl rfl))
       (C8.pss_cut (ps_if (pt_cmpR op_eq (pv 2) pe_str (nomark _))
       (pss_one (ps_set (i := 2) sc_law_name.nd rfl (Or.inl rfl) pe_str))
       pss_nil)
       (pss_one (ps_set (i := 1) sc_law_name.nd rfl (Or.inl rfl) (pe_op op_addT (pv 1) (pv 2))))))
       (pss_one (ps_ret (pv 1))))), ?_⟩
    try dsimp only [cxOf, Cx.nox, Cx.wish]
    obtain ⟨n, rfl, n0, q⟩ := h
    walk_at "go"
    rename_i z hz hg
    have hz12 : z.length ≤ 12 := by omega
    have hz1 : 1 ≤ z.length := by omega
    refine r_forS (fun i σ' H' => ∃ (t : Str) (v : Option V), σ' = [some (.int n), some (.str t), v] ∧ H = H' ∧ t.length = i ∧ t.cps.toList.all goodN = true ∧ 32 ∉ t.cps.toList) ⟨_, _, rfl, rfl, rfl, rfl, by decide +kernel⟩ ?_ ?_
    · rintro i c σ' H' hc ⟨t, v, rfl, rfl, tl, tg, t32⟩
      have hi : i < z.length := by rw [← len_tl]; exact (List.getElem?_eq_some_iff.mp hc).1
      have gc := List.all_eq_true.mp hg c (List.mem_of_getElem? hc)
      walk_at "go"
      refine r_cut (fun σ' H' => ∃ d : Nat, goodN d = true ∧ d ≠ 32 ∧ σ' = [some (.int n), some (.str t), some (.str (SX.S [d]))] ∧ H = H') ?_ ?_
      · walk_at "go"
        refine r_ite (fun _ => ?_) (fun e => ?_)
        · walk_at "go"
          rw [S_bang]
          exact ⟨33, by decide, by decide, rfl, rfl⟩
        · walk_at "go"
          exact ⟨c, gc, fun z => e (by rw [z, S_space]), rfl, rfl⟩
      rintro _ _ ⟨d, gd, d32, rfl, rfl⟩
      have sl1 : (SX.S [d]).length = 1 := SX.S_len [d]
      walk_at "go"
      refine ⟨_, _, rfl, rfl, by rw [app_len, tl, sl1], ?_, ?_⟩
      · rw [app_tl, List.all_append, tg]
        show (true && ([d].all goodN)) = true
        rw [List.all_cons, gd]
        rfl
      · rw [app_tl]
        intro z
        rcases List.mem_append.mp z with z | z
        · exact t32 z
        · exact d32 (List.mem_singleton.mp (show 32 ∈ [d] from z)).symm
    · rintro σ' H' ⟨t, v, rfl, rfl, tl, tg, t32⟩
      walk_at "go"
      exact q _ (isSn_iff.mpr ⟨by omega, by omega, tg, t32⟩)
theorem slot_flat {z : Str} (h : z.length ≤ 12) : [V.int (z.length : Int)] ++ (ocs z).map V.int ++ List.replicate (12 - (z.length : Int)).toNat (V.int 0) = (slotO (some z)).map V.int := by
  have ol := ocs_len z
  rw [show [V.int (z.length : Int)] ++ (ocs z).map V.int ++ List.replicate (12 - (z.length : Int)).toNat (V.int 0) = ([(z.length : Int)] ++ ocs z ++ List.replicate (12 - (z.length : Int)).toNat 0).map V.int from by rw [List.map_append, List.map_append, List.map_replicate]; rfl]
  congr 1
  refine ext_getD (n := 13) (by simp only [List.length_append, List.length_cons, List.length_nil, List.length_replicate, ol]; omega) (slotO_len _) fun i hi => ?_
  unfold slotO
  rw [filI_at hi, List.getD_eq_getElem?_getD, List.getD_eq_getElem?_getD]
  by_cases c : i < ([(z.length : Int)] ++ ocs z).length
  · rw [List.getElem?_append_left c]
  · rw [List.getElem?_append_right (by omega), List.getElem?_eq_none (l := [(z.length : Int)] ++ ocs z) (by omega), List.getElem?_replicate]
    split <;> rfl
def sp_law_slot  : Sp := fun args_ H Q _ => ∃ (o : Option Str), args_ = [nmV o] ∧ NmOk o ∧ ∀ H' l, Same H H' → H l = none → H' l = some (.lst ((slotO o).map V.int)) → Q (.ref l) H'
theorem i_law_slot  {args_ : List V} {H : Hp} {Q : V → Hp → Prop} {E : XK} {o : Option Str} (ev : args_ = [nmV o]) (hn : NmOk o) (q : ∀ H' l, Same H H' → H l = none → H' l = some (.lst ((slotO o).map V.int)) → Q (.ref l) H') : sp_law_slot  args_ H Q E := ⟨o, ev, hn, q⟩
local macro_rules | `(tactic| walk_at "ca1") => `(tactic| with_reducible (refine' Sg.i_law_slot ?ev ?hn ?_; (case ev => (with_unfolding_all rfl)); (case hn => (with_unfolding_all walk_at "pr")); intros))

theorem ok_law_slot (T : Txt K mg) : FnOk P w K mg base CX0 1 T.a_law_slot T.fd_law_slot ["name"] sp_law_slot := by
  refine T.F_law_slot.ok sc_law_slot (fun vs H Q E h => ?_) (fun cdv A outer s H vs Q E hr h => ?_)
  · obtain ⟨o, rfl, _⟩ := h
    rfl
  · refine ⟨_, (pss_cons (ps_if (pt_cmp (pc_isN (pv 0)) rfl)
       (pss_one (ps_ret (pe_op op_rep (pe_lst (pa_cons pe_int pa_nil)) pe_int)))
       pss_nil)
       (pss_one (ps_ret (pe_op op_cat (pe_op op_cat (pe_lst (pa_cons (pe_callB (c_lenS) (by rfl) T.n_len (by decide +kernel) (pa_cons (pv 0) pa_nil)) pa_nil)) (pe_lc (own := [("char", 1)]) (g := gName 1) (tt := tYes) rfl sc_law_slot.nd (pi_str (pv 0)) (blkOk_by (own := [("char", 1)]) (N := n_law_slot) (sc := defScope s_law_slot) (by decide +kernel)) (fun _ _ _ _ _ => pg_name (i := 1) sc_law_slot.nd rfl (Or.inl rfl)) (fun _ _ _ _ _ => pts_nil) (fun _ _ _ _ _ => (pe_callB (call_ord) (by rfl) T.n_ord (by decide +kernel) (pa_cons (pv 1) pa_nil))))) (pe_op op_rep (pe_lst (pa_cons pe_int pa_nil)) (pe_op op_sub pe_int (pe_callB (c_lenS) (by rfl) T.n_len (by decide +kernel) (pa_cons (pv 0) pa_nil)))))))), ?_⟩
    try dsimp only [cxOf, Cx.nox, Cx.wish]
    obtain ⟨o, rfl, hn, q⟩ := h
    cases o with
    | none =>
      dsimp only [nmV]
      walk_at "go"
      rename_i p1 n1 H1 s1 g1 p2 n2 H2 s2 g2
      exact q _ _ (s1.trans s2) (s1.free n2) (by rw [g2]; rfl)
    | some z =>
      obtain ⟨l1, l2, hg, _⟩ := isSn_iff.mp (hn z rfl)
      have ol := ocs_len z
      dsimp only [nmV]
      walk_at "go"
      rename_i p1 n1 H1 s1 g1
      refine r_lcS (fun c => .int (c : Int)) (by omega) rfl ?_ ?_
      · intro i c H' hc s R hR
        walk_at "go"
        refine ⟨_, rfl, rfl, ?_⟩
        exact hR _ (L2.Same.refl _)
      intro H2 p2 s2 n2 g2
      rw [show z.cps.toList.map (fun c : Nat => V.int (c : Int)) = (ocs z).map V.int from by rw [ocs, List.map_map]; rfl] at g2
      walk_at "go"
      rename_i p3 n3 H3 s3 g3 p4 n4 H4 s4 g4 p5 n5 H5 s5 g5 p6 n6 H6 s6 g6
      refine q _ _ (by walk_at "sm") ((s1.trans (s2.trans (s3.trans (s4.trans s5)))).free n6) ?_
      rw [g6, slot_flat l2]
theorem div_step (s : Int) (i : Nat) : s / 2 ^ (8 * i) / 256 = s / 2 ^ (8 * (i + 1)) := by
  rw [Int.ediv_ediv_of_nonneg (Int.pow_nonneg (by decide)), Nat.mul_add, Int.pow_add]
  rfl
theorem head_eq {s t r : Int} (r0 : 0 ≤ r) (r1 : r < 65536) (nms : List (Option Str)) : octN s 4 ++ [t, r % 256, r / 256] = headS ⟨s, t, r, nms⟩ := by
  unfold headS
  show _ = octN s 4 ++ [t] ++ [r % 256, r / 256 % 256]
  rw [List.append_assoc, show r / 256 % 256 = r / 256 by omega]
  rfl
theorem octN_snoc : ∀ (k : Nat) (n : Int), octN n (k + 1) = octN n k ++ [n / 2 ^ (8 * k) % 256]
  | 0, n => by simp [octN]
  | k + 1, n => by
    rw [octN, octN_snoc k (n / 256)]
    show _ = n % 256 :: octN (n / 256) k ++ _
    have e : n / 256 / 2 ^ (8 * k) = n / 2 ^ (8 * (k + 1)) := by
      rw [Int.ediv_ediv_of_nonneg (by decide), Nat.mul_add, Int.pow_add, Int.mul_comm]
      rfl
    rw [e]
    rfl
def sp_law_octets (K : PySem.W.Frag) : Sp := fun args_ H Q _ => ∃ (a b : Addr) (s t r : Int) (nms : List (Option Str)) (w : Int), args_ = [.ref a, .ref b, .int w] ∧ SqL K H a [V.int s, V.int t, V.int r] ∧ SqL K H b (nms.map nmV) ∧ SbOk ⟨s, t, r, nms⟩ ∧ 46 ≤ w ∧ w ≤ 1000 ∧ ∀ H' l, Same H H' → H l = none → H' l = some (.lst ((encS ⟨s, t, r, nms⟩ w.toNat).map V.int)) → Q (.ref l) H'
theorem i_law_octets {K : PySem.W.Frag} {args_ : List V} {H : Hp} {Q : V → Hp → Prop} {E : XK} {a b : Addr} {s t r : Int} {nms : List (Option Str)} {w : Int} (ev : args_ = [.ref a, .ref b, .int w]) (ha : SqL K H a [V.int s, V.int t, V.int r]) (hb : SqL K H b (nms.map nmV)) (hO : SbOk ⟨s, t, r, nms⟩) (w0 : 46 ≤ w) (w1 : w ≤ 1000) (q : ∀ H' l, Same H H' → H l = none → H' l = some (.lst ((encS ⟨s, t, r, nms⟩ w.toNat).map V.int)) → Q (.ref l) H') : sp_law_octets K args_ H Q E := ⟨a, b, s, t, r, nms, w, ev, ha, hb, hO, w0, w1, q⟩
local macro_rules | `(tactic| walk_at "ca1") => `(tactic| with_reducible (refine' Sg.i_law_octets ?ev ?ha ?hb ?hO ?w0 ?w1 ?_; (case ev => (with_unfolding_all rfl)); (case ha => (with_unfolding_all walk_at "pr")); (case hb => (with_unfolding_all walk_at "pr")); (case hO => (with_unfolding_all walk_at "pr")); (case w0 => (with_unfolding_all walk_at "pr")); (case w1 => (with_unfolding_all walk_at "pr")); intros))

theorem ok_law_octets (T : Txt K mg) : FnOk P w K mg base CX0 2 T.a_law_octets T.fd_law_octets ["fields", "names", "width"] (sp_law_octets K) := by
  refine T.F_law_octets.ok sc_law_octets (fun vs H Q E h => ?_) (fun cdv A outer s H vs Q E hr h => ?_)
  · obtain ⟨a, b, s, t, r, nms, w, rfl, _⟩ := h
    rfl
  · refine ⟨_, (pss_cons (ps_set (i := 3) sc_law_octets.nd rfl (Or.inl rfl) (pe_lst pa_nil))
       (pss_cons (ps_set (i := 4) sc_law_octets.nd rfl (Or.inl rfl) (pe_ix ix_list (pv 0) pe_int (fun _ _ => rfl)))
       (pss_cons (ps_for PassesOwn.never rfl (pi_range1 rfl T.n_range (pa_cons pe_int pa_nil)) (pg_name (i := 5) sc_law_octets.nd rfl (Or.inl rfl))
       (pss_cons (ps_expr (pe_bm PySem.F.plainAttrs_list PySem.F.slot_list_append PySem.F.type_list_append mt_append (pv 3) (pa_cons (pe_op op_mod (pv 4) pe_int) pa_nil)))
       (pss_one (ps_set (i := 4) sc_law_octets.nd rfl (Or.inl rfl) (pe_op op_fdiv (pv 4) pe_int)))))
       (pss_cons (ps_set (i := 3) sc_law_octets.nd rfl (Or.inl rfl) (pe_op op_cat (pv 3) (pe_lst (pa_cons (pe_ix ix_list (pv 0) pe_int (fun _ _ => rfl)) (pa_cons (pe_op op_mod (pe_ix ix_list (pv 0) pe_int (fun _ _ => rfl)) pe_int) (pa_cons (pe_op op_fdiv (pe_ix ix_list (pv 0) pe_int (fun _ _ => rfl)) pe_int) pa_nil))))))
       (pss_cons (ps_for PassesOwn.never rfl (pi_list (pv 1)) (pg_name (i := 6) sc_law_octets.nd rfl (Or.inl rfl))
       (pss_one (ps_set (i := 3) sc_law_octets.nd rfl (Or.inl rfl) (pe_op op_cat (pv 3) (pe_call (ok_law_slot T) (hr.mono (by decide)) rfl T.m_law_slot T.F_law_slot.kp T.b_law_slot .nil pass0 (pa_cons (pv 6) pa_nil))))))
       (pss_one (ps_ret (pe_op op_cat (pv 3) (pe_op op_rep (pe_lst (pa_cons pe_int pa_nil)) (pe_op op_sub (pv 2) pe_int)))))))))), ?_⟩
    try dsimp only [cxOf, Cx.nox, Cx.wish]
    obtain ⟨a, b, s, t, r, nms, w, rfl, ha, hb, hO, w0, w1, q⟩ := h
    walk_at "go"
    rename_i po no H1 s1 g1
    refine r_forR (fun i σ' H' => ∃ v5 : Option V, σ' = [some (.ref a), some (.ref b), some (.int w), some (.ref po), some (.int (s / 2 ^ (8 * i))), v5, none] ∧ Same H H' ∧ H' po = some (.lst ((octN s i).map V.int))) ⟨none, by rw [Nat.mul_zero, Int.pow_zero, Int.ediv_one]; rfl, s1, g1⟩ ?_ ?_
    · rintro i σ' H' hi ⟨v5, rfl, sm, g⟩
      have ol := octN_len i s
      have hi4 : i < 4 := hi
      walk_at "go"
      rename_i z hz z0 z1 H2 e2 g2
      rw [div_step]
      refine ⟨_, rfl, Same.old sm no e2, ?_⟩
      rw [g2, octN_snoc, List.map_append, hz]
      rfl
    rintro σ' H2 ⟨v5, rfl, s2, g2⟩
    replace g2 : H2 po = some (.lst ((octN s 4).map V.int)) := g2
    have ol4 : (octN s 4).length = 4 := octN_len _ _
    have ha2 := s2.seq ha
    walk_at "go"
    rename_i z hz z0 z1 p3 n3 H3 s3 g3 p4 n4 H4 s4 g4
    have hl7 : (headS ⟨s, t, r, nms⟩).length = 7 := by unfold headS; simp only [List.length_append, octN_len]; rfl
    rw [show (octN s 4).map V.int ++ [V.int t, V.int z, V.int (r / 256)] = (headS ⟨s, t, r, nms⟩).map V.int from by rw [hz, ← head_eq hO.r0 hO.r1 nms, List.map_append]; rfl] at g4
    have S4 : Same H H4 := s2.trans (s3.trans s4)
    have N4 : H p4 = none := (s2.trans s3).free n4
    have nl : nms.length = 3 := hO.nl
    refine r_forL (xs := nms.map nmV) (fun i σ' H' => ∃ (lo : Addr) (v4 v5 v6 : Option V), σ' = [some (.ref a), some (.ref b), some (.int w), some (.ref lo), v4, v5, v6] ∧ Same H H' ∧ H lo = none ∧ H' lo = some (.lst ((headS ⟨s, t, r, nms⟩ ++ ((nms.take i).map slotO).flatten).map V.int))) ⟨_, _, _, _, rfl, S4, N4, by simpa using g4⟩ (fun i σ' H' _ ⟨_, _, _, _, _, sm, _⟩ => sm.seq hb) ?_ ?_
    · rintro i x σ' H' hx ⟨lo, v4, v5, v6, rfl, sm, nlo, g⟩
      rw [List.getElem?_map] at hx
      obtain ⟨o, ho, rfl⟩ := Option.map_eq_some_iff.mp hx
      have hno : NmOk o := hO.nm o (List.mem_of_getElem? ho)
      have hi : i < 3 := by rw [← nl]; exact (List.getElem?_eq_some_iff.mp ho).1
      have gl : (headS ⟨s, t, r, nms⟩ ++ ((nms.take i).map slotO).flatten).length ≤ 100 := by
        rw [List.length_append, hl7, flat_len, List.length_take]
        omega
      have so := slotO_len o
      generalize hX : headS ⟨s, t, r, nms⟩ ++ ((nms.take i).map slotO).flatten = X at g gl
      walk_at "go"
      rename_i H6 l6 s6 n6 g6 p7 n7 H7 s7 g7
      refine ⟨_, _, _, _, rfl, sm.trans (s6.trans s7), (sm.trans s6).free n7, ?_⟩
      rw [g7, ← hX, ← List.map_append, List.append_assoc, ← flat_snoc ho]
    · rintro σ' H' ⟨lo, v4, v5, v6, rfl, sm, nlo, g⟩
      rw [List.length_map, List.take_length] at g
      have bl : (headS ⟨s, t, r, nms⟩ ++ (nms.map slotO).flatten).length = 46 := by rw [List.length_append, hl7, flat_len, nl]
      generalize hX : headS ⟨s, t, r, nms⟩ ++ (nms.map slotO).flatten = X at g bl
      walk_at "go"
      rename_i p5 n5 H5 s5 g5 p6 n6 H6 s6 g6 p7 n7 H7 s7 g7
      refine q _ _ (sm.trans (s5.trans (s6.trans s7))) ((sm.trans (s5.trans s6)).free n7) ?_
      rw [g7, ← hX]
      show some (HO.lst ((bodyS ⟨s, t, r, nms⟩).map V.int ++ List.replicate (w - 46).toNat (V.int 0))) = _
      rw [encS_eq hO.nl (by omega), List.map_append, List.map_replicate, show w.toNat - 46 = (w - 46).toNat by omega]
theorem atS {ns : List Int} (h : 46 ≤ ns.length) {i k : Nat} (hi : i < 3) (hk : k < 13) {j : Int} (hj : j = 7 + 13 * i + k) : atI (ns.map V.int) j = some (.int ((slN ns i).getD k 0)) := by
  have e := at_ints (ts := ns) (k := j) (by omega) (by omega)
  rw [e, slN_at ns i hk, show j.toNat = 7 + 13 * i + k by omega]
theorem atT {ns : List Int} {i : Nat} (x : V) (h : ((ns.drop 46).map V.int)[i]? = some x) : x = .int (ns.getD (46 + i) 0) ∧ 46 + i < ns.length := by
  rw [List.getElem?_map, List.getElem?_drop] at h
  obtain ⟨y, hy, rfl⟩ := Option.map_eq_some_iff.mp h
  exact ⟨by rw [List.getD_eq_getElem?_getD, hy]; rfl, (List.getElem?_eq_some_iff.mp hy).1⟩
def sp_law_good (K : PySem.W.Frag) : Sp := fun args_ H Q _ => ∃ (a : Addr) (ns : List Int), args_ = [.ref a] ∧ SqL K H a (ns.map V.int) ∧ 46 ≤ ns.length ∧ ns.length ≤ 1000 ∧ (∀ x ∈ ns, 0 ≤ x ∧ x < 256) ∧ ((goodS ns → ∀ H', Same H H' → Q (.bl true) H')) ∧ (¬ goodS ns → ∀ H', Same H H' → Q (.bl false) H')
theorem i_law_good {K : PySem.W.Frag} {args_ : List V} {H : Hp} {Q : V → Hp → Prop} {E : XK} {a : Addr} {ns : List Int} (ev : args_ = [.ref a]) (h : SqL K H a (ns.map V.int)) (hl : 46 ≤ ns.length) (hl2 : ns.length ≤ 1000) (hb : (∀ x ∈ ns, 0 ≤ x ∧ x < 256)) (q1 : (goodS ns → ∀ H', Same H H' → Q (.bl true) H')) (q2 : (¬ goodS ns → ∀ H', Same H H' → Q (.bl false) H')) : sp_law_good K args_ H Q E := ⟨a, ns, ev, h, hl, hl2, hb, q1, q2⟩
local macro_rules | `(tactic| walk_at "ca1") => `(tactic| with_reducible (refine' Sg.i_law_good ?ev ?h ?hl ?hl2 ?hb ?q1 ?q2; (case ev => (with_unfolding_all rfl)); (case h => (with_unfolding_all walk_at "pr")); (case hl => (with_unfolding_all walk_at "pr")); (case hl2 => (with_unfolding_all walk_at "pr")); (case hb => (with_unfolding_all walk_at "pr"))))

theorem ok_law_good (T : Txt K mg) : FnOk P w K mg base CX0 1 T.a_law_good T.fd_law_good ["octets"] (sp_law_good K) := by
  refine T.F_law_good.ok sc_law_good (fun vs H Q E h => ?_) (fun cdv A outer s H vs Q E hr h => ?_)
  · obtain ⟨a, ns, rfl, _⟩ := h
    rfl
  · refine ⟨_, (pss_cons (ps_for PassesOwn.never rfl (pi_list (pe_slice sl_list (pv 0) (po_some pe_int) po_none)) (pg_name (i := 1) sc_law_good.nd rfl (Or.inl rfl))
       (pss_one (ps_if (pt_cmpR op_ne (pv 1) pe_int (nomark _))
       (pss_one (ps_ret pe_bl))
       pss_nil)))
       (pss_cons (ps_for PassesOwn.never rfl (pi_list (pe_lst (pa_cons pe_int (pa_cons pe_int (pa_cons pe_int pa_nil))))) (pg_name (i := 2) sc_law_good.nd rfl (Or.inl rfl))
       (pss_cons (ps_set (i := 3) sc_law_good.nd rfl (Or.inl rfl) (pe_ix ix_list (pv 0) (pv 2) (fun _ _ => rfl)))
       (pss_cons (ps_if (pt_cmpR op_gt (pv 3) pe_int (nomark _))
       (pss_one (ps_ret pe_bl))
       pss_nil)
       (pss_one (ps_for PassesOwn.never rfl (pi_range1 rfl T.n_range (pa_cons pe_int pa_nil)) (pg_name (i := 4) sc_law_good.nd rfl (Or.inl rfl))
       (pss_cons (ps_set (i := 5) sc_law_good.nd rfl (Or.inl rfl) (pe_ix ix_list (pv 0) (pe_op op_add (pe_op op_add (pv 2) pe_int) (pv 4)) (fun _ _ => rfl)))
       (pss_one (ps_if (PW.pt (pw_or (PW.pt (pw_and (pt_cmpR op_lt (pv 4) (pv 3) (nomark _)) (pw_and1 (PW.pt (pw_or (pt_cmpR op_lt (pv 5) pe_int (nomark _)) (pw_or (pt_cmpR op_gt (pv 5) pe_int (nomark _)) (pw_or1 (pt_cmpR op_eq (pv 5) pe_int (nomark _))))))))) (pw_or1 (PW.pt (pw_and (pt_cmpR op_ge (pv 4) (pv 3) (nomark _)) (pw_and1 (pt_cmpR op_ne (pv 5) pe_int (nomark _))))))))
       (pss_one (ps_ret pe_bl))
       pss_nil))))))))
       (pss_one (ps_ret pe_bl)))), ?_⟩
    try dsimp only [cxOf, Cx.nox, Cx.wish]
    obtain ⟨a, ns, rfl, h, hl, hl2, hb, q1, q2⟩ := h
    walk_at "go"
    rename_i l1 n1 H1 s1 g1
    rw [cut_from (by decide), ← List.map_drop] at g1
    refine r_forL (xs := (ns.drop (Int.toNat 46)).map V.int) (fun i σ' H' => ∃ v1 : Option V, σ' = [some (.ref a), v1, none, none, none, none] ∧ H1 = H' ∧ ∀ j, j < i → ns.getD (46 + j) 0 = 0) ⟨_, rfl, rfl, fun j hj => absurd hj (Nat.not_lt_zero _)⟩ (fun i σ' H' _ ⟨_, _, e, _⟩ => e ▸ .of g1) ?_ ?_
    · rintro i x σ' H' hx ⟨v1, rfl, rfl, hall⟩
      obtain ⟨rfl, hlt⟩ := atT x hx
      walk_at "go"
      refine r_iteN (fun ne => ?_) (fun e => ?_)
      · walk_at "go"
        exact q2 (fun z => ne (z.1 _ (by omega))) _ s1
      · walk_at "go"
        refine ⟨_, rfl, rfl, fun j hj => ?_⟩
        rcases Nat.lt_or_ge j i with y | y
        · exact hall j y
        · rw [show j = i by omega]
          exact e
    rintro σ' H' ⟨v1, rfl, rfl, hall⟩
    have htail : ∀ i, 46 ≤ i → ns.getD i 0 = 0 := fun i hi => by
      by_cases c : i < ns.length
      · have := hall (i - 46) (by rw [List.length_map, List.length_drop, show Int.toNat 46 = 46 from rfl]; omega)
        rw [show 46 + (i - 46) = i by omega] at this
        exact this
      · rw [List.getD_eq_getElem?_getD, List.getElem?_eq_none (by omega)]
        rfl
    have h1 := s1.seq h
    walk_at "go"
    rename_i p2 n2 H2 s2 g2
    have S2 := s1.trans s2
    have h2 := s2.seq h1
    refine r_forL (xs := [V.int 7, .int 20, .int 33]) (fun i σ' H' => ∃ v1 v2 v3 v4 v5 : Option V, σ' = [some (.ref a), v1, v2, v3, v4, v5] ∧ H2 = H' ∧ ∀ j, j < i → slotP (slN ns j)) ⟨_, _, _, _, _, rfl, rfl, fun j hj => absurd hj (Nat.not_lt_zero _)⟩ (fun i σ' H' _ ⟨_, _, _, _, _, _, e, _⟩ => e ▸ .of g2) ?_ ?_
    · rintro i x σ' H' hx ⟨v1, v2, v3, v4, v5, rfl, rfl, hall2⟩
      have hi : i < 3 := (List.getElem?_eq_some_iff.mp hx).1
      obtain rfl : x = .int (7 + 13 * (i : Int)) := by
        match i, hi with
        | 0, _ => exact (Option.some.inj hx).symm
        | 1, _ => exact (Option.some.inj hx).symm
        | 2, _ => exact (Option.some.inj hx).symm
      have a0 : atI (ns.map V.int) (7 + 13 * (i : Int)) = some (.int ((slN ns i).getD 0 0)) := atS hl hi (by decide) (by omega)
      have hlb := byte_at (slN_byte hb i) 0
      have bad : ¬ slotP (slN ns i) → Q (.bl false) H2 := fun z => q2 (fun g => z (g.2 i hi)) _ S2
      walk_at "go"
      refine r_ixl h2 a0 ?_
      walk_at "go"
      refine r_ite (fun c => ?_) (fun c => ?_)
      · walk_at "go"
        exact bad (fun z => by have := z.1; omega)
      walk_at "go"
      refine r_forR (fun k σ' H' => ∃ v4 v5 : Option V, σ' = [some (.ref a), v1, some (.int (7 + 13 * (i : Int))), some (.int ((slN ns i).getD 0 0)), v4, v5] ∧ H2 = H' ∧ ∀ k' : Nat, k' < k → ((k' : Int) < (slN ns i).getD 0 0 → 33 ≤ (slN ns i).getD (1 + k') 0 ∧ (slN ns i).getD (1 + k') 0 ≤ 126 ∧ (slN ns i).getD (1 + k') 0 ≠ 37) ∧ ((slN ns i).getD 0 0 ≤ (k' : Int) → (slN ns i).getD (1 + k') 0 = 0)) ⟨_, _, rfl, rfl, fun k' hk => absurd hk (Nat.not_lt_zero _)⟩ ?_ ?_
      · rintro k σ' H' hk ⟨v4, v5, rfl, rfl, hall3⟩
        have hk12 : k < 12 := hk
        have ak : atI (ns.map V.int) (7 + 13 * (i : Int) + 1 + (0 + (k : Int))) = some (.int ((slN ns i).getD (1 + k) 0)) := atS hl hi (by omega) (by omega)
        have bad3 : ¬ (((k : Int) < (slN ns i).getD 0 0 → 33 ≤ (slN ns i).getD (1 + k) 0 ∧ (slN ns i).getD (1 + k) 0 ≤ 126 ∧ (slN ns i).getD (1 + k) 0 ≠ 37) ∧ ((slN ns i).getD 0 0 ≤ (k : Int) → (slN ns i).getD (1 + k) 0 = 0)) → Q (.bl false) H2 := fun z => bad fun y => z (y.2 k hk12)
        have next : (((k : Int) < (slN ns i).getD 0 0 → 33 ≤ (slN ns i).getD (1 + k) 0 ∧ (slN ns i).getD (1 + k) 0 ≤ 126 ∧ (slN ns i).getD (1 + k) 0 ≠ 37) ∧ ((slN ns i).getD 0 0 ≤ (k : Int) → (slN ns i).getD (1 + k) 0 = 0)) → ∀ k' : Nat, k' < k + 1 → ((k' : Int) < (slN ns i).getD 0 0 → 33 ≤ (slN ns i).getD (1 + k') 0 ∧ (slN ns i).getD (1 + k') 0 ≤ 126 ∧ (slN ns i).getD (1 + k') 0 ≠ 37) ∧ ((slN ns i).getD 0 0 ≤ (k' : Int) → (slN ns i).getD (1 + k') 0 = 0) := fun z k' hk' => by
          rcases Nat.lt_or_ge k' k with y | y
          · exact hall3 k' y
          · rw [show k' = k by omega]; exact z
        clear bad hall3 a0
        walk_at "go"
        refine r_ixl h2 ak ?_
        clear ak
        generalize hcode : (slN ns i).getD (1 + k) 0 = code at bad3 next ⊢
        generalize hlen : (slN ns i).getD 0 0 = len at bad3 next hlb c ⊢
        walk_at "gs"
        all_goals first
          | exact bad3 (by omega)
          | exact ⟨_, _, rfl, rfl, next (by omega)⟩
      · rintro σ' H' ⟨v4, v5, rfl, rfl, hall3⟩
        refine ⟨_, _, _, _, _, rfl, rfl, fun j hj => ?_⟩
        rcases Nat.lt_or_ge j i with y | y
        · exact hall2 j y
        · rw [show j = i by omega]
          exact ⟨by omega, fun k hk => hall3 k hk⟩
    · rintro σ' H' ⟨v1, v2, v3, v4, v5, rfl, rfl, hall2⟩
      walk_at "go"
      exact q1 ⟨htail, fun i hi => hall2 i hi⟩ _ S2
def sp_law_reads (K : PySem.W.Frag) (CL CS : Addr) : Sp := fun args_ H Q _ => ∃ (pl a : Addr) (L : Lay) (ns : List Int), args_ = [.ref pl, .ref a] ∧ LayAt CL L H pl ∧ SqL K H a (ns.map V.int) ∧ ns.length = L.size.toNat ∧ 46 ≤ L.size ∧ L.size ≤ 1000 ∧ (∀ x ∈ ns, 0 ≤ x ∧ x < 256) ∧ ∀ H', Same H H' → Q (.bl true) H'
theorem i_law_reads {K : PySem.W.Frag} {CL CS : Addr} {args_ : List V} {H : Hp} {Q : V → Hp → Prop} {E : XK} {pl a : Addr} {L : Lay} {ns : List Int} (ev : args_ = [.ref pl, .ref a]) (h1 : LayAt CL L H pl) (h : SqL K H a (ns.map V.int)) (hl : ns.length = L.size.toNat) (z0 : 46 ≤ L.size) (z1 : L.size ≤ 1000) (hb : (∀ x ∈ ns, 0 ≤ x ∧ x < 256)) (q : ∀ H', Same H H' → Q (.bl true) H') : sp_law_reads K CL CS args_ H Q E := ⟨pl, a, L, ns, ev, h1, h, hl, z0, z1, hb, q⟩
local macro_rules | `(tactic| walk_at "ca1") => `(tactic| with_reducible (refine' Sg.i_law_reads ?ev ?h1 ?h ?hl ?z0 ?z1 ?hb ?_; (case ev => (with_unfolding_all rfl)); (case h1 => (with_unfolding_all walk_at "pr")); (case h => (with_unfolding_all walk_at "pr")); (case hl => (with_unfolding_all walk_at "pr")); (case z0 => (with_unfolding_all walk_at "pr")); (case z1 => (with_unfolding_all walk_at "pr")); (case hb => (with_unfolding_all walk_at "pr")); intros))

theorem ok_law_reads (T : Txt K mg) : FnOk P w K mg base CX0 6 T.a_law_reads T.fd_law_reads ["layout", "octets"] (sp_law_reads K T.A_Layout T.A_Superblock) := by
  refine T.F_law_reads.ok sc_law_reads (fun vs H Q E h => ?_) (fun cdv A outer s H vs Q E hr h => ?_)
  · obtain ⟨pl, a, L, ns, rfl, _⟩ := h
    rfl
  · refine ⟨_, (pss_cons (ps_set (i := 2) sc_law_reads.nd rfl (Or.inl rfl) (pe_callTy c_list (by rfl) T.n_list (by decide +kernel) (pa_cons (pv 1) pa_nil)))
       (pss_cons (ps_set (i := 3) sc_law_reads.nd rfl (Or.inl rfl) (pe_call (ok_decode_superblock T) (hr.mono (by decide)) rfl T.m_decode_superblock T.F_decode_superblock.kp T.b_decode_superblock .nil pass0 (pa_cons (pv 2) pa_nil)))
       (pss_cons (ps_if (pt_cmpR (op_neD hr.units) (pv 2) (pv 1) (nomark _))
       (pss_one (ps_ret pe_bl))
       pss_nil)
       (pss_cons (ps_if (pt_not (pt_val (pe_call (ok_law_good T) (hr.mono (by decide)) rfl T.m_law_good T.F_law_good.kp T.b_law_good .nil pass0 (pa_cons (pv 1) pa_nil))))
       (pss_one (ps_ret (pe_cmp (pc_isN (pv 3)) rfl)))
       pss_nil)
       (C8.pss_cut (ps_if (PW.pt (pw_or (pt_cmp (pc_isN (pv 3)) rfl) (pw_or (pt_not (pt_val (pe_callB (call_isi) (by rfl) T.n_isinstance (by decide +kernel) (pa_cons (pe_fld (pv 3) rfl) (pa_cons (pe_bltn (v := .ty "list") (by rfl) T.n_list (by decide +kernel) rfl) pa_nil))))) (pw_or1 (pt_cmpR op_ne (pe_callB (c_len) (by rfl) T.n_len (by decide +kernel) (pa_cons (pe_fld (pv 3) rfl) pa_nil)) pe_int (nomark _))))))
       (pss_one (ps_ret pe_bl))
       pss_nil)
       (pss_cons (ps_set (i := 4) sc_law_reads.nd rfl (Or.inl rfl) (pe_call (ok_decode_superblock T) (hr.mono (by decide)) rfl T.m_decode_superblock T.F_decode_superblock.kp T.b_decode_superblock .nil pass0 (pa_cons (pe_callTy c_tuple (by rfl) T.n_tuple (by decide +kernel) (pa_cons (pv 1) pa_nil)) pa_nil)))
       (C8.pss_cut (ps_if (PW.pt (pw_or (pt_cmp (pc_isN (pv 4)) rfl) (pw_or1 (pt_cmpR (op_neD hr.units) (pe_lst (pa_cons (pe_fld (pv 4) rfl) (pa_cons (pe_fld (pv 4) rfl) (pa_cons (pe_fld (pv 4) rfl) pa_nil)))) (pe_lst (pa_cons (pe_fld (pv 3) rfl) (pa_cons (pe_fld (pv 3) rfl) (pa_cons (pe_fld (pv 3) rfl) pa_nil)))) (nomark _)))))
       (pss_one (ps_ret pe_bl))
       pss_nil)
       (pss_one (ps_ret (pe_cmpR (op_eqD hr.units) (pe_call (ok_encode_superblock T) (hr.mono (by decide)) rfl T.m_encode_superblock T.F_encode_superblock.kp T.b_encode_superblock .nil pass0 (pa_cons (pv 0) (pa_cons (pv 3) pa_nil))) (pe_callTy c_tuple (by rfl) T.n_tuple (by decide +kernel) (pa_cons (pv 1) pa_nil)) (nomark _))))))))))), ?_⟩
    try dsimp only [cxOf, Cx.nox, Cx.wish]
    obtain ⟨pl, a, L, ns, rfl, h1, h, hl, z0, z1, hb, q⟩ := h
    have cl_Superblock := T.cl_Superblock
    have na_Superblock_height := T.na_Superblock_height
    have na_Superblock_names := T.na_Superblock_names
    have na_Superblock_root := T.na_Superblock_root
    have na_Superblock_size := T.na_Superblock_size
    have hl46 : 46 ≤ ns.length := by omega
    have hl1 : ns.length ≤ 1000 := by omega
    walk_at "go"
    rename_i p np H1 s1 hp
    have hp1 : SqI K H1 p ns := .inl (.of hp)
    walk_at "go"
    case q2 =>
      intro hA H2 s2
      have h2 := (s1.trans s2).seq h
      have hp2 := s2 _ _ hp
      walk_at "go"
      refine r_ned (Dp.ints (.of hp2)) (Dp.ints h2) (Fl.intlS _) (Fl.intlS _) ?_
      rw [(Fl.intl ns).self]
      walk_at "go"
      case q1 =>
        intro hg
        exact absurd ((good_iff hl46 hb).mp hg) hA
      case q2 =>
        intro hg H3 s3
        walk_at "go"
        exact q _ (s1.trans (s2.trans s3))
    case q1 =>
      intro hA H2 pf lf s2 nf hS
      have h2 := (s1.trans s2).seq h
      have hp2 := s2 _ _ hp
      walk_at "go"
      refine r_ned (Dp.ints (.of hp2)) (Dp.ints h2) (Fl.intlS _) (Fl.intlS _) ?_
      rw [(Fl.intl ns).self]
      walk_at "go"
      case q2 =>
        intro hg
        exact absurd ((good_iff hl46 hb).mpr hA) hg
      case q1 =>
        intro hg H3 s3
        have h3 := s3.seq h2
        have S3 : Same H H3 := s1.trans (s2.trans s3)
        have hS3 := hS.mono s3
        obtain ⟨dx, fs, gp, F, gn⟩ := id hS3
        have f0 := F.len
        have f1 := F.size
        have f2 := F.height
        have f3 := F.root
        have f4 := F.names
        have nl3 : (valS ns).names.length = 3 := rfl
        walk_at "go"
        refine r_cut (fun σ' H' => σ' = [some (.ref pl), some (.ref a), some (.ref p), some (.ref pf), none] ∧ Same H3 H') ?_ ?_
        · walk_at "go"
          exact ⟨rfl, Same.refl _⟩
        rintro _ H4 ⟨rfl, s4⟩
        have h4 := s4.seq h3
        walk_at "go"
        rename_i p5 n5 H5 s5 g5
        have hp5 : SqI K H5 p5 ns := .inr (.of g5)
        walk_at "go"
        case q2 =>
          intro hn
          exact absurd hA hn
        intro _ H6 pa la s6 na hSa
        have S46 := s4.trans (s5.trans s6)
        have h6 := S46.seq h3
        have hS6 := hS3.mono S46
        have h16 := h1.mono (S3.trans S46)
        have gp6 := S46 _ _ gp
        obtain ⟨dx2, fs2, gp2, F2, gn2⟩ := id hSa
        have e1 := F2.size
        have e2 := F2.height
        have e3 := F2.root
        clear s4 s5 s6 hp5 g5 n5 na nf s1 s2 s3 hp hp1 hp2 h2 h3 h4 gp gn
        refine r_cut (fun σ' H' => σ' = [some (.ref pl), some (.ref a), some (.ref p), some (.ref pf), some (.ref pa)] ∧ Same H6 H') ?_ ?_
        · walk_at "go"
          rename_i l7 n7 H7 s7 g7 l8 n8 H8 s8 g8
          refine r_neI (ns := [(valS ns).size, (valS ns).height, (valS ns).root]) (.of (s8 _ _ g7)) (.of g8) ?_
          walk_at "go"
          exact ⟨rfl, s7.trans s8⟩
        rintro _ H7 ⟨rfl, s7⟩
        have h7 := s7.seq h6
        have hS7 := hS6.mono s7
        have h17 := h16.mono s7
        have vo := (valS_ok hl46 hb).2
        have z0' : 0 ≤ L.size := by omega
        walk_at "go"
        rename_i H8 t8 s8 g8 t9 n9 H9 s9 g9
        rw [valS_enc hl (by omega) hb hA] at g8
        refine r_eqd (d := .tuple (ns.map PyData.int)) (e := .tuple (ns.map PyData.int)) (.tup (.of (s9 _ _ g8)) (DpAll.ints ns)) (.tup (.of g9) (DpAll.ints ns)) (Fl.ints ns).shaped (Fl.ints ns).shaped ?_
        rw [(Fl.ints ns).self]
        exact q _ (S3.trans (S46.trans (s7.trans (s8.trans s9))))
def sp_law_texts  : Sp := fun args_ H Q _ => ∃ (n : Int), args_ = [.int n] ∧ 0 ≤ n ∧ ∀ H', Same H H' → Q (.bl true) H'
theorem i_law_texts  {args_ : List V} {H : Hp} {Q : V → Hp → Prop} {E : XK} {n : Int} (ev : args_ = [.int n]) (n0 : 0 ≤ n) (q : ∀ H', Same H H' → Q (.bl true) H') : sp_law_texts  args_ H Q E := ⟨n, ev, n0, q⟩
local macro_rules | `(tactic| walk_at "ca1") => `(tactic| with_reducible (refine' Sg.i_law_texts ?ev ?n0 ?_; (case ev => (with_unfolding_all rfl)); (case n0 => (with_unfolding_all walk_at "pr")); intros))

theorem ok_law_texts (T : Txt K mg) : FnOk P w K mg base CX0 4 T.a_law_texts T.fd_law_texts ["number"] sp_law_texts := by
  refine T.F_law_texts.ok sc_law_texts (fun vs H Q E h => ?_) (fun cdv A outer s H vs Q E hr h => ?_)
  · obtain ⟨n, rfl, _⟩ := h
    rfl
  · refine ⟨_, (pss_cons (ps_set (i := 1) sc_law_texts.nd rfl (Or.inl rfl) (pe_call (ok_law_text T) (hr.mono (by decide)) rfl T.m_law_text T.F_law_text.kp T.b_law_text .nil pass0 (pa_cons (pe_op op_fdiv (pe_callTy c_int (by rfl) T.n_int (by decide +kernel) (pa_cons (pv 0) pa_nil)) pe_int) (pa_cons (pe_op op_mod (pe_callTy c_int (by rfl) T.n_int (by decide +kernel) (pa_cons (pv 0) pa_nil)) pe_int) pa_nil))))
       (C8.pss_cut (ps_set (i := 2) sc_law_texts.nd rfl (Or.inl rfl) (pe_and (pe_cmpR op_le pe_int (pe_callB (c_lenS) (by rfl) T.n_len (by decide +kernel) (pa_cons (pv 1) pa_nil)) (nomark _)) (pe_and (pe_cmpR op_le (pe_callB (c_lenS) (by rfl) T.n_len (by decide +kernel) (pa_cons (pv 1) pa_nil)) pe_int (nomark _)) (pe_one (pe_cmpR op_notIn_sign pe_str (pv 1) (by with_unfolding_all rfl))))))
       (C8.pss_cut (ps_if (PW.pt (pw_or (pt_not (pt_val (pe_call (ok_law_is T) (hr.mono (by decide)) rfl T.m_law_is T.F_law_is.kp T.b_law_is .nil pass0 (pa_cons (pe_call (ok_is_snapshot_name T) (hr.mono (by decide)) rfl T.m_is_snapshot_name T.F_is_snapshot_name.kp T.b_is_snapshot_name .nil pass0 (pa_cons (pv 1) pa_nil)) (pa_cons (pv 2) pa_nil))))) (pw_or1 (pt_cmpR op_notBl (pe_call (ok_is_snapshot_name T) (hr.mono (by decide)) rfl T.m_is_snapshot_name T.F_is_snapshot_name.kp T.b_is_snapshot_name .nil pass0 (pa_cons pe_str pa_nil)) pe_bl (nomark _)))))
       (pss_one (ps_ret pe_bl))
       pss_nil)
       (C8.pss_cut (ps_if (PW.pt (pw_or (pt_cmpR op_notBl (pe_call (ok_is_snapshot_name T) (hr.mono (by decide)) rfl T.m_is_snapshot_name T.F_is_snapshot_name.kp T.b_is_snapshot_name .nil pass0 (pa_cons (pe_op op_addT (pe_slice sl_str (pv 1) po_none (po_some pe_int)) pe_str) pa_nil)) pe_bl (nomark _)) (pw_or1 (pt_cmpR op_notBl (pe_call (ok_is_snapshot_name T) (hr.mono (by decide)) rfl T.m_is_snapshot_name T.F_is_snapshot_name.kp T.b_is_snapshot_name .nil pass0 (pa_cons pe_str pa_nil)) pe_bl (nomark _)))))
       (pss_one (ps_ret pe_bl))
       pss_nil)
       (pss_one (ps_ret (pe_and (pe_cmpR op_isBl (pe_call (ok_is_snapshot_name T) (hr.mono (by decide)) rfl T.m_is_snapshot_name T.F_is_snapshot_name.kp T.b_is_snapshot_name .nil pass0 (pa_cons (pe_op op_mulS pe_str pe_int) pa_nil)) pe_bl (nomark _)) (pe_one (pe_cmpR op_isBl (pe_call (ok_is_snapshot_name T) (hr.mono (by decide)) rfl T.m_is_snapshot_name T.F_is_snapshot_name.kp T.b_is_snapshot_name .nil pass0 (pa_cons (pe_op op_mulS pe_str pe_int) pa_nil)) pe_bl (nomark _)))))))))), ?_⟩
    try dsimp only [cxOf, Cx.nox, Cx.wish]
    obtain ⟨n, rfl, n0, q⟩ := h
    walk_at "go"
    rename_i z hz hg
    have zl : z.length ≤ 14 := by omega
    have no : (¬ (1 ≤ z.length ∧ z.length ≤ 12 ∧ 32 ∉ z.cps.toList)) → isSn z = false := fun h => Bool.eq_false_iff.mpr fun e => by
      obtain ⟨a, b, _, c⟩ := isSn_iff.mp e
      exact h ⟨a, b, c⟩
    refine r_cut (fun σ' H' => σ' = [some (.int n), some (.str z), some (.bl (isSn z))] ∧ H = H') ?_ ?_
    · walk_at "go"
      refine r_ite (fun c1 => ?_) (fun c1 => ?_)
      case refine_2 =>
        rw [no (fun ⟨z1, _⟩ => c1 (by omega))]
        walk_at "go"
        exact ⟨rfl, rfl⟩
      walk_at "go"
      refine r_ite (fun c2 => ?_) (fun c2 => ?_)
      case refine_2 =>
        rw [no (fun ⟨_, z1, _⟩ => c2 (by omega))]
        walk_at "go"
        exact ⟨rfl, rfl⟩
      walk_at "go"
      refine ⟨32, z, rfl, rfl, ?_⟩
      by_cases c3 : 32 ∈ z.cps.toList
      · rw [no (fun ⟨_, _, z1⟩ => z1 c3), decide_eq_true c3]
        exact ⟨rfl, rfl⟩
      · rw [isSn_iff.mpr ⟨by omega, by omega, hg, c3⟩, decide_eq_false c3]
        exact ⟨rfl, rfl⟩
    rintro _ _ ⟨rfl, rfl⟩
    refine r_cut (fun σ' H' => σ' = [some (.int n), some (.str z), some (.bl (isSn z))] ∧ Same H H') ?_ ?_
    · walk_at "go"
      exact ⟨rfl, by walk_at "sm"⟩
    rintro _ H1 ⟨rfl, s1⟩
    refine r_cut (fun σ' H' => σ' = [some (.int n), some (.str z), some (.bl (isSn z))] ∧ Same H1 H') ?_ ?_
    · have cl := cutS_length z none (some 5)
      walk_at "go"
      refine r_slS (by omega) ?_
      generalize cutS z none (some 5) = y at cl ⊢
      have nl : (Str.ofString "\n").length = 1 := by decide +kernel
      have bad : isSn (y ++ "\n") = false := Bool.eq_false_iff.mpr fun e => by
        have h1 := (isSn_iff.mp e).2.2.1
        rw [app_tl, List.all_append] at h1
        have h2 : ("\n" : Str).cps.toList.all goodN = false := by decide +kernel
        rw [h2, Bool.and_false] at h1
        cases h1
      have yl : (y ++ "\n" : Str).length ≤ 100000 := by rw [app_len]; omega
      walk_at "go"
      try rw [bad]
      walk_at "go"
      exact ⟨rfl, by walk_at "sm"⟩
    rintro _ H2 ⟨rfl, s2⟩
    walk_at "go"
    refine r_mulS (by decide) (by decide) ?hl ?_
    case hl => decide +kernel
    walk_at "go"
    refine r_mulS (by decide) (by decide) ?hl ?_
    case hl => decide +kernel
    walk_at "go"
    refine q _ (s1.trans (s2.trans ?_))
    walk_at "sm"
theorem at10 {i c : Int} (h0 : 0 ≤ i) (h1 : i < 10) (c0 : 0 ≤ c) (c1 : c < 256) : ∃ t : Int, 0 ≤ t ∧ t < 256 ∧ atI [V.int 0, V.int 1, V.int 12, V.int 13, V.int 32, V.int 33, V.int 37, V.int 126, V.int 127, V.int c] i = some (.int t) := by
  have : i = 0 ∨ i = 1 ∨ i = 2 ∨ i = 3 ∨ i = 4 ∨ i = 5 ∨ i = 6 ∨ i = 7 ∨ i = 8 ∨ i = 9 := by omega
  rcases this with rfl | rfl | rfl | rfl | rfl | rfl | rfl | rfl | rfl | rfl
  all_goals first
    | exact ⟨c, c0, c1, rfl⟩
    | exact ⟨_, by decide, by decide, rfl⟩
def dN : Option Str → PyData
  | none => .none
  | some z => .str z
theorem DpAll.nms {K : PySem.W.Frag} {H : Hp} : ∀ ns : List (Option Str), DpAll K H (ns.map nmV) (ns.map dN)
  | [] => .nil
  | none :: r => .cons .non (DpAll.nms r)
  | some z :: r => .cons (.str z) (DpAll.nms r)
theorem Fl.nms {ns : List (Option Str)} (h : ∀ o ∈ ns, NmOk o) : Fl 1 (.list (ns.map dN)) := Fl.lst fun d hd => by
  obtain ⟨o, ho, rfl⟩ := List.mem_map.mp hd
  cases o with
  | none => exact ⟨rfl, by simp [dN, PyData.depth]⟩
  | some z => exact ⟨strOk_good (isSn_iff.mp (h _ ho z rfl)).2.2.1, by simp [dN, PyData.depth]⟩
theorem r_neNm {K : PySem.W.Frag} {H : Hp} {a b : Addr} {ns : List (Option Str)} {Q : V → Hp → Prop} (ha : SqL K H a (ns.map nmV)) (hb : SqL K H b (ns.map nmV)) (h : ∀ o ∈ ns, NmOk o) (q : Q (.bl false) H) : rNeD K (.ref a) (.ref b) H Q := by
  refine r_ned (.lst ha (DpAll.nms ns)) (.lst hb (DpAll.nms ns)) (Fl.nms h).shaped (Fl.nms h).shaped ?_
  rw [(Fl.nms h).self]
  exact q
def spLaw (K : PySem.W.Frag) : Sp := fun vs H Q _ => ∃ (a : Addr) (ns : List Int), vs = [.ref a] ∧ SqL K H a (ns.map V.int) ∧ ns.length ≤ 63 ∧ ∀ H', Q (.bl true) H'
theorem ok_law (T : Txt K mg) : FnOk P w K mg base CX0 7 T.a_law T.fd_law ["script"] (spLaw K) := by
  refine T.F_law.ok sc_law (fun vs H Q E h => ?_) (fun cdv A outer s H vs Q E hr h => ?_)
  · obtain ⟨a, ns, rfl, _⟩ := h
    rfl
  · refine ⟨_, (pss_cons (ps_set (i := 1) sc_law.nd rfl (Or.inl rfl) (pe_call (ok_law_row T) (hr.mono (by decide)) rfl T.m_law_row T.F_law_row.kp T.b_law_row .nil pass0 (pa_cons (pv 0) (pa_cons pe_int pa_nil))))
       (pss_cons (ps_set (i := 2) sc_law.nd rfl (Or.inl rfl) (pe_call (ok_law_layout T) (hr.mono (by decide)) rfl T.m_law_layout T.F_law_layout.kp T.b_law_layout .nil pass0 (pa_cons (pv 1) pa_nil)))
       (pss_cons (ps_set (i := 3) sc_law.nd rfl (Or.inl rfl) (pe_fld (pv 2) rfl))
       (pss_cons (ps_set (i := 4) sc_law.nd rfl (Or.inl rfl) (pe_lst (pa_cons (pe_op op_mod (pe_op op_fdiv (pe_callTy c_int (by rfl) T.n_int (by decide +kernel) (pa_cons (pv 1) pa_nil)) pe_int) pe_int) (pa_cons (pe_op op_mod (pe_op op_fdiv (pe_callTy c_int (by rfl) T.n_int (by decide +kernel) (pa_cons (pv 1) pa_nil)) pe_int) pe_int) (pa_cons (pe_op op_mod (pe_op op_fdiv (pe_callTy c_int (by rfl) T.n_int (by decide +kernel) (pa_cons (pv 1) pa_nil)) pe_int) pe_int) pa_nil)))))
       (C8.pss_cut (ps_if (pt_cmpR op_eq (pe_op op_mod (pe_op op_fdiv (pe_callTy c_int (by rfl) T.n_int (by decide +kernel) (pa_cons (pv 1) pa_nil)) pe_int) pe_int) pe_int (nomark _))
       (pss_one (ps_set (i := 4) sc_law.nd rfl (Or.inl rfl) (pe_lst (pa_cons (pe_op op_mod (pe_op op_fdiv (pe_callTy c_int (by rfl) T.n_int (by decide +kernel) (pa_cons (pv 1) pa_nil)) pe_int) pe_int) (pa_cons (pe_op op_mod (pe_op op_fdiv (pe_callTy c_int (by rfl) T.n_int (by decide +kernel) (pa_cons (pv 1) pa_nil)) pe_int) pe_int) (pa_cons (pe_op op_mod (pe_op op_fdiv (pe_callTy c_int (by rfl) T.n_int (by decide +kernel) (pa_cons (pv 1) pa_nil)) pe_int) pe_int) pa_nil))))))
       pss_nil)
       (pss_cons (ps_set (i := 5) sc_law.nd rfl (Or.inl rfl) (pe_lst pa_nil))
       (pss_cons (ps_for PassesOwn.never rfl (pi_range1 rfl T.n_range (pa_cons pe_int pa_nil)) (pg_name (i := 6) sc_law.nd rfl (Or.inl rfl))
       (pss_cons (ps_set (i := 1) sc_law.nd rfl (Or.inl rfl) (pe_call (ok_law_row T) (hr.mono (by decide)) rfl T.m_law_row T.F_law_row.kp T.b_law_row .nil pass0 (pa_cons (pv 0) (pa_cons (pe_op op_add pe_int (pv 6)) pa_nil))))
       (pss_cons (ps_set (i := 7) sc_law.nd rfl (Or.inl rfl) pe_non)
       (C8.pss_cut (ps_if (pt_cmpR op_gt (pe_op op_mod (pe_callTy c_int (by rfl) T.n_int (by decide +kernel) (pa_cons (pv 1) pa_nil)) pe_int) pe_int (nomark _))
       (pss_one (ps_set (i := 7) sc_law.nd rfl (Or.inl rfl) (pe_call (ok_law_name T) (hr.mono (by decide)) rfl T.m_law_name T.F_law_name.kp T.b_law_name .nil pass0 (pa_cons (pe_op op_fdiv (pe_callTy c_int (by rfl) T.n_int (by decide +kernel) (pa_cons (pv 1) pa_nil)) pe_int) pa_nil))))
       pss_nil)
       (pss_one (ps_expr (pe_bm PySem.F.plainAttrs_list PySem.F.slot_list_append PySem.F.type_list_append mt_append (pv 5) (pa_cons (pv 7) pa_nil))))))))
       (pss_cons (ps_set (i := 8) sc_law.nd rfl (Or.inl rfl) (pe_callTy c_list (by rfl) T.n_list (by decide +kernel) (pa_cons (pv 5) pa_nil)))
       (pss_cons (ps_set (i := 9) sc_law.nd rfl (Or.inl rfl) (pe_make T.M_Superblock (ok_Superblock___init T) (hr.mono (by decide)) rfl T.m_Superblock T.b_Superblock___init .nil pass0 (pa_cons (pe_ix ix_list (pv 4) pe_int (fun _ _ => rfl)) (pa_cons (pe_ix ix_list (pv 4) pe_int (fun _ _ => rfl)) (pa_cons (pe_ix ix_list (pv 4) pe_int (fun _ _ => rfl)) (pa_cons (pv 8) pa_nil))))))
       (pss_cons (ps_asg pe_str (pg_sub (pv 8) pe_int set_list))
       (C8.pss_cut (ps_if (PW.pt (pw_or (pt_cmpR (op_neD hr.units) (pe_lst (pa_cons (pe_fld (pv 9) rfl) (pa_cons (pe_fld (pv 9) rfl) (pa_cons (pe_fld (pv 9) rfl) pa_nil)))) (pv 4) (nomark _)) (pw_or1 (pt_cmpR (op_neD hr.units) (pe_fld (pv 9) rfl) (pv 5) (nomark _)))))
       (pss_one (ps_ret pe_bl))
       pss_nil)
       (pss_cons (ps_set (i := 10) sc_law.nd rfl (Or.inl rfl) (pe_call (ok_encode_superblock T) (hr.mono (by decide)) rfl T.m_encode_superblock T.F_encode_superblock.kp T.b_encode_superblock .nil pass0 (pa_cons (pv 2) (pa_cons (pv 9) pa_nil))))
       (C8.pss_cut (ps_if (PW.pt (pw_or (pt_not (pt_val (pe_callB (call_isi) (by rfl) T.n_isinstance (by decide +kernel) (pa_cons (pv 10) (pa_cons (pe_bltn (v := .ty "tuple") (by rfl) T.n_tuple (by decide +kernel) rfl) pa_nil))))) (pw_or (pt_cmpR (op_neD hr.units) (pe_callTy c_list (by rfl) T.n_list (by decide +kernel) (pa_cons (pv 10) pa_nil)) (pe_call (ok_law_octets T) (hr.mono (by decide)) rfl T.m_law_octets T.F_law_octets.kp T.b_law_octets .nil pass0 (pa_cons (pv 4) (pa_cons (pv 5) (pa_cons (pv 3) pa_nil)))) (nomark _)) (pw_or1 (pt_cmpR op_ne (pe_glob rfl T.c_NAME_SIGNS T.r_NAME_SIGNS) pe_int (nomark _))))))
       (pss_one (ps_ret pe_bl))
       pss_nil)
       (pss_cons (ps_set (i := 11) sc_law.nd rfl (Or.inl rfl) (pe_call (ok_decode_superblock T) (hr.mono (by decide)) rfl T.m_decode_superblock T.F_decode_superblock.kp T.b_decode_superblock .nil pass0 (pa_cons (pv 10) pa_nil)))
       (C8.pss_cut (ps_if (PW.pt (pw_or (pt_cmp (pc_isN (pv 11)) rfl) (pw_or (pt_cmpR (op_neD hr.units) (pe_lst (pa_cons (pe_fld (pv 11) rfl) (pa_cons (pe_fld (pv 11) rfl) (pa_cons (pe_fld (pv 11) rfl) pa_nil)))) (pv 4) (nomark _)) (pw_or1 (pt_cmpR (op_neD hr.units) (pe_fld (pv 11) rfl) (pv 5) (nomark _))))))
       (pss_one (ps_ret pe_bl))
       pss_nil)
       (pss_cons (ps_set (i := 11) sc_law.nd rfl (Or.inl rfl) (pe_call (ok_decode_superblock T) (hr.mono (by decide)) rfl T.m_decode_superblock T.F_decode_superblock.kp T.b_decode_superblock .nil pass0 (pa_cons (pe_slice sl_list (pe_callTy c_list (by rfl) T.n_list (by decide +kernel) (pa_cons (pv 10) pa_nil)) po_none (po_some pe_int)) pa_nil)))
       (C8.pss_cut (ps_if (PW.pt (pw_or (pt_cmp (pc_isN (pv 11)) rfl) (pw_or (pt_cmpR (op_neD hr.units) (pe_lst (pa_cons (pe_fld (pv 11) rfl) (pa_cons (pe_fld (pv 11) rfl) (pa_cons (pe_fld (pv 11) rfl) pa_nil)))) (pv 4) (nomark _)) (pw_or1 (pt_cmpR (op_neD hr.units) (pe_fld (pv 11) rfl) (pv 5) (nomark _))))))
       (pss_one (ps_ret pe_bl))
       pss_nil)
       (pss_cons (ps_set (i := 1) sc_law.nd rfl (Or.inl rfl) (pe_call (ok_law_row T) (hr.mono (by decide)) rfl T.m_law_row T.F_law_row.kp T.b_law_row .nil pass0 (pa_cons (pv 0) (pa_cons pe_int pa_nil))))
       (pss_cons (ps_set (i := 12) sc_law.nd rfl (Or.inl rfl) (pe_callTy c_list (by rfl) T.n_list (by decide +kernel) (pa_cons (pv 10) pa_nil)))
       (pss_cons (ps_asg (pe_ix ix_list (pe_lst (pa_cons pe_int (pa_cons pe_int (pa_cons pe_int (pa_cons pe_int (pa_cons pe_int (pa_cons pe_int (pa_cons pe_int (pa_cons pe_int (pa_cons pe_int (pa_cons (pe_op op_mod (pe_op op_fdiv (pe_callTy c_int (by rfl) T.n_int (by decide +kernel) (pa_cons (pv 1) pa_nil)) pe_int) pe_int) pa_nil))))))))))) (pe_op op_mod (pe_op op_fdiv (pe_callTy c_int (by rfl) T.n_int (by decide +kernel) (pa_cons (pv 1) pa_nil)) pe_int) pe_int) (fun _ _ => rfl)) (pg_sub (pv 12) (pe_op op_mod (pe_callTy c_int (by rfl) T.n_int (by decide +kernel) (pa_cons (pv 1) pa_nil)) (pv 3)) set_list))
       (C8.pss_cut (ps_if (PW.pt (pw_or (pt_not (pt_val (pe_call (ok_law_reads T) (hr.mono (by decide)) rfl T.m_law_reads T.F_law_reads.kp T.b_law_reads .nil pass0 (pa_cons (pv 2) (pa_cons (pe_callTy c_list (by rfl) T.n_list (by decide +kernel) (pa_cons (pv 10) pa_nil)) pa_nil))))) (pw_or1 (pt_not (pt_val (pe_call (ok_law_reads T) (hr.mono (by decide)) rfl T.m_law_reads T.F_law_reads.kp T.b_law_reads .nil pass0 (pa_cons (pv 2) (pa_cons (pv 12) pa_nil))))))))
       (pss_one (ps_ret pe_bl))
       pss_nil)
       (pss_cons (ps_asg (pe_op op_mod (pe_op op_fdiv (pe_callTy c_int (by rfl) T.n_int (by decide +kernel) (pa_cons (pv 1) pa_nil)) pe_int) pe_int) (pg_sub (pv 12) (pe_op op_mod (pe_op op_fdiv (pe_callTy c_int (by rfl) T.n_int (by decide +kernel) (pa_cons (pv 1) pa_nil)) pe_int) pe_int) set_list))
       (pss_one (ps_ret (pe_and (pe_call (ok_law_reads T) (hr.mono (by decide)) rfl T.m_law_reads T.F_law_reads.kp T.b_law_reads .nil pass0 (pa_cons (pv 2) (pa_cons (pv 12) pa_nil))) (pe_one (pe_call (ok_law_texts T) (hr.mono (by decide)) rfl T.m_law_texts T.F_law_texts.kp T.b_law_texts .nil pass0 (pa_cons (pe_call (ok_law_row T) (hr.mono (by decide)) rfl T.m_law_row T.F_law_row.kp T.b_law_row .nil pass0 (pa_cons (pv 0) (pa_cons pe_int pa_nil))) pa_nil)))))))))))))))))))))))))))), ?_⟩
    try dsimp only [cxOf, Cx.nox, Cx.wish]
    obtain ⟨a, ns, rfl, hS, h63, q⟩ := h
    walk_at "go"
    rename_i z1 z10 s b w H1 pl hF s1 npl hLay
    have cl_Layout := T.cl_Layout
    have cl_Superblock := T.cl_Superblock
    have na1 := T.na_Layout_block_size
    have na2 := T.na_Superblock_size
    have na3 := T.na_Superblock_height
    have na4 := T.na_Superblock_root
    have na5 := T.na_Superblock_names
    obtain ⟨dl, fl, gl, FL⟩ := id hLay
    have f5 : _ = some (V.int w) := FL.size
    have hS1 := s1.seq hS
    have w46 : 46 ≤ w := by rcases hF.zz with z | z | z <;> omega
    have w1 : w ≤ 1000 := by rcases hF.zz with z | z | z <;> omega
    walk_at "go"
    refine r_cut (fun σ' H' => ∃ (lf : Addr) (f0 f1 f2 : Int), σ' = [some (.ref a), some (.int z1), some (.ref pl), some (.int w), some (.ref lf), none, none, none, none, none, none, none, none] ∧ Same H1 H' ∧ H' lf = some (.lst [.int f0, .int f1, .int f2]) ∧ 0 ≤ f0 ∧ f0 < 4294967296 ∧ 0 ≤ f1 ∧ f1 < 256 ∧ 0 ≤ f2 ∧ f2 < 65536) ?_ ?_
    · walk_at "gs"
      all_goals refine ⟨_, _, _, _, rfl, ?_, by walk_at "hp", by omega, by omega, by omega, by omega, by omega, by omega⟩
      all_goals walk_at "sm"
    rintro _ H2 ⟨lf, f0, f1, f2, rfl, s2, g2, f00, f01, f10, f11, f20, f21⟩
    have hS2 := s2.seq hS1
    have gl2 := s2 _ _ gl
    have hLay2 := hLay.mono s2
    walk_at "go"
    rename_i ln nln H3 s3 g3
    refine r_forR (fun i σ' H' => ∃ (nms : List (Option Str)) (vn vm vk : Option V), σ' = [some (.ref a), vn, some (.ref pl), some (.int w), some (.ref lf), some (.ref ln), vk, vm, none, none, none, none, none] ∧ Same H2 H' ∧ H' ln = some (.lst (nms.map nmV)) ∧ nms.length = i ∧ ∀ o ∈ nms, NmOk o) ⟨[], _, _, _, rfl, s3, g3, rfl, fun o ho => by cases ho⟩ ?_ ?_
    · rintro i σ' H4 hi ⟨nms, vn, vm, vk, rfl, s4, g4, hl, hn⟩
      have hi3 : i < 3 := hi
      have hS4 := s4.seq hS2
      walk_at "go"
      rename_i x x0
      refine r_cut (fun σ' H' => ∃ o : Option Str, NmOk o ∧ σ' = [some (.ref a), some (.int x), some (.ref pl), some (.int w), some (.ref lf), some (.ref ln), some (.int (0 + (i : Int))), some (nmV o), none, none, none, none, none] ∧ H4 = H') ?_ ?_
      · walk_at "go"
        refine r_ite (fun _ => ?_) (fun _ => ?_)
        · walk_at "go"
          rename_i z hz
          exact ⟨some z, fun y e => by cases e; exact hz, rfl, rfl⟩
        · walk_at "go"
          exact ⟨none, fun y e => (by cases e), rfl, rfl⟩
      rintro _ _ ⟨o, ho, rfl, rfl⟩
      walk_at "go"
      rename_i H5 e5 g5
      refine ⟨nms ++ [o], _, _, _, rfl, Same.old s4 nln e5, by rw [g5, List.map_append]; rfl, by rw [List.length_append, hl]; rfl, fun o' ho' => ?_⟩
      rcases List.mem_append.mp ho' with y | y
      · exact hn o' y
      · rw [List.mem_singleton.mp y]; exact ho
    rintro σ' H4 ⟨nms, vn, vm, vk, rfl, s4, g4, hl, hn⟩
    replace hl : nms.length = 3 := hl
    walk_at "go"
    rename_i lp nlp H5 s5 g5
    intro x dx nx nd ne
    have px : lp ≠ x := fun z => by rw [z, nx] at g5; cases g5
    have pd : lp ≠ dx := fun z => by rw [z, nd] at g5; cases g5
    have g5u : upd (upd H5 dx (.own x)) x (.ins T.A_Superblock dx []) lp = some (.lst (nms.map nmV)) := by rw [upd_ne px, upd_ne pd]; exact g5
    refine i_Superblock___init rfl (nms := nms) upd_same g5u (by omega) fun H6 lq k nq hSb => ⟨rfl, ?_⟩
    have lql : lq ≠ lp := fun z => by rw [z, g5u] at nq; cases nq
    have s6 : Same H5 H6 := fun c o e => by
      have cx : c ≠ x := fun z => by rw [z, nx] at e; cases e
      have cd : c ≠ dx := fun z => by rw [z, nd] at e; cases e
      exact k c o cx (by rw [upd_ne cx, upd_ne cd]; exact e)
    have g6 := s6 _ _ g5
    obtain ⟨dxs, fs, gx, F, gq⟩ := hSb
    walk_at "go"
    refine r_setl g6 (ixN_ok (by decide) (by rw [List.length_map, hl]; decide)) ?_
    generalize hH : upd _ _ _ = H7
    have gx7 : H7 x = some (.ins T.A_Superblock dxs fs) := by rw [← hH, upd_ne (Ne.symm px)]; exact gx
    have gq7 : H7 lq = some (.lst (nms.map nmV)) := by rw [← hH, upd_ne lql]; exact gq
    have s7 : Same H4 H7 := Same.old (s5.trans s6) nlp hH
    have S7 : Same H2 H7 := s4.trans s7
    have hSb7 : SbAt T.A_Superblock ⟨f0, f1, f2, nms⟩ H7 x lq := ⟨dxs, fs, gx7, F, gq7⟩
    have hS7 := S7.seq hS2
    have gf7 := S7 _ _ g2
    have gn7 := s7 _ _ g4
    have hLay7 := hLay2.mono S7
    have hO : SbOk ⟨f0, f1, f2, nms⟩ := ⟨f00, f01, f10, f11, f20, f21, hl, hn⟩
    have k0 := F.len
    have k1 := F.size
    have k2 := F.height
    have k3 := F.root
    have k4 := F.names
    clear gx gq g6 s6 nq k g5u px pd nd ne nx s5 nlp lql hH s3 g3 s4 g4 s2 g2 hS hS1 hS2 hLay hLay2 gl gl2 s7 S7 g5
    refine r_cut (fun σ' H' => σ' = [some (.ref a), vn, some (.ref pl), some (.int w), some (.ref lf), some (.ref ln), vk, vm, some (.ref lp), some (.ref x), none, none, none] ∧ Same H7 H') ?_ ?_
    · walk_at "go"
      rename_i l8 n8 H8 s8 g8
      refine r_neI (ns := [f0, f1, f2]) (.of g8) (.of (s8 _ _ gf7)) ?_
      walk_at "go"
      refine r_neNm (.of (s8 _ _ gq7)) (.of (s8 _ _ gn7)) hn ?_
      walk_at "go"
      exact ⟨rfl, s8⟩
    rintro _ H8 ⟨rfl, s8⟩
    have hS8 := s8.seq hS7
    have gf8 := s8 _ _ gf7
    have gn8 := s8 _ _ gn7
    have hLay8 := hLay7.mono s8
    have hSb8 := hSb7.mono s8
    have z0' : 0 ≤ (layOf s b w).size := by show 0 ≤ w; omega
    have z1' : (layOf s b w).size ≤ 1000 := w1
    walk_at "go"
    rename_i H9 t s9 g9
    replace g9 : H9 t = some (.tup ((encS ⟨f0, f1, f2, nms⟩ w.toNat).map V.int)) := g9
    have w46n : 46 ≤ w.toNat := by omega
    obtain ⟨dA, dV⟩ := dec_enc hO w46n
    obtain ⟨cA, cV⟩ := dec_cut hO w46n
    have hby := enc_byte hO w46n
    have hln : (encS ⟨f0, f1, f2, nms⟩ w.toNat).length = w.toNat := filI_len _ _
    generalize hE : encS ⟨f0, f1, f2, nms⟩ w.toNat = es at g9 dA dV cA cV hby hln
    have e46 : 46 ≤ es.length := by omega
    have e1000 : es.length ≤ 1000 := by omega
    have hS9 := s9.seq hS8
    have gf9 := s9 _ _ gf8
    have gn9 := s9 _ _ gn8
    have hLay9 := hLay8.mono s9
    clear s9 s8 hS8 gf8 gn8 hLay8 hSb8 hSb7 gx7 gq7 hS7 gf7 gn7 hLay7
    refine r_cut (fun σ' H' => σ' = [some (.ref a), vn, some (.ref pl), some (.int w), some (.ref lf), some (.ref ln), vk, vm, some (.ref lp), some (.ref x), some (.ref t), none, none] ∧ Same H9 H') ?_ ?_
    · walk_at "go"
      rename_i l10 n10 H10 s10 g10 H11 l11 s11 n11 g11
      rw [hE] at g11
      refine r_neI (.of (s11 _ _ g10)) (.of g11) ?_
      walk_at "go"
      exact ⟨rfl, s10.trans s11⟩
    rintro _ H10 ⟨rfl, s10⟩
    have g10 := s10 _ _ g9
    have hT10 : SqI K H10 t es := .inr (.of g10)
    walk_at "go"
    case q2 =>
      intro hn'
      exact absurd dA hn'
    intro _ H11 pf lq2 s11 nf hSf
    rw [dV] at hSf
    obtain ⟨dxf, ff, gxf, Ff, gqf⟩ := id hSf
    have m0 := Ff.len
    have m1 := Ff.size
    have m2 := Ff.height
    have m3 := Ff.root
    have m4 := Ff.names
    have s911 := s10.trans s11
    have hS11 := s911.seq hS9
    have gf11 := s911 _ _ gf9
    have gn11 := s911 _ _ gn9
    have gt11 := s911 _ _ g9
    have hLay11 := hLay9.mono s911
    clear s10 s11 hT10 nf s911 hS9 gf9 gn9 g9 g10 hLay9
    refine r_cut (fun σ' H' => σ' = [some (.ref a), vn, some (.ref pl), some (.int w), some (.ref lf), some (.ref ln), vk, vm, some (.ref lp), some (.ref x), some (.ref t), some (.ref pf), none] ∧ Same H11 H') ?_ ?_
    · walk_at "go"
      rename_i l12 n12 H12 s12 g12
      refine r_neI (ns := [f0, f1, f2]) (.of g12) (.of (s12 _ _ gf11)) ?_
      walk_at "go"
      refine r_neNm (.of (s12 _ _ gqf)) (.of (s12 _ _ gn11)) hn ?_
      walk_at "go"
      exact ⟨rfl, s12⟩
    rintro _ H12 ⟨rfl, s12⟩
    have gt12 := s12 _ _ gt11
    walk_at "go"
    rename_i l13 n13 H13 s13 g13 l14 n14 H14 s14 g14
    rw [cut_to (by decide), ← List.map_take] at g14
    have hT14 : SqI K H14 l14 (es.take 46) := .inl (.of g14)
    have t46 : 46 ≤ (es.take 46).length := by rw [List.length_take]; omega
    have t1000 : (es.take 46).length ≤ 1000 := by rw [List.length_take]; omega
    have tby : ∀ x ∈ es.take 46, 0 ≤ x ∧ x < 256 := fun x hx => hby x (List.mem_of_mem_take hx)
    walk_at "go"
    case q2 =>
      intro hn'
      exact absurd cA hn'
    intro _ H15 pg lq3 s15 ng hSg
    rw [cV] at hSg
    obtain ⟨dxg, fg, gxg, Fg, gqg⟩ := id hSg
    have r0 := Fg.len
    have r1 := Fg.size
    have r2 := Fg.height
    have r3 := Fg.root
    have r4 := Fg.names
    have s1115 := s12.trans (s13.trans (s14.trans s15))
    have hS15 := s1115.seq hS11
    have gf15 := s1115 _ _ gf11
    have gn15 := s1115 _ _ gn11
    have gt15 := s1115 _ _ gt11
    have hLay15 := hLay11.mono s1115
    clear s12 s13 s14 s15 hT14 ng s1115 hS11 gf11 gn11 gt11 gt12 g13 g14 n13 n14 hLay11
    refine r_cut (fun σ' H' => σ' = [some (.ref a), vn, some (.ref pl), some (.int w), some (.ref lf), some (.ref ln), vk, vm, some (.ref lp), some (.ref x), some (.ref t), some (.ref pg), none] ∧ Same H15 H') ?_ ?_
    · walk_at "go"
      rename_i l12 n12 H12 s12 g12
      refine r_neI (ns := [f0, f1, f2]) (.of g12) (.of (s12 _ _ gf15)) ?_
      walk_at "go"
      refine r_neNm (.of (s12 _ _ gqg)) (.of (s12 _ _ gn15)) hn ?_
      walk_at "go"
      exact ⟨rfl, s12⟩
    rintro _ H16 ⟨rfl, s16⟩
    have hS16 := s16.seq hS15
    have gt16 := s16 _ _ gt15
    have hLay16 := hLay15.mono s16
    clear s16 hS15 gf15 gn15 gt15 hLay15 gxg gqg gxf gqf
    walk_at "go"
    rename_i num num0 lr nr H17 s17 g17 c hc c0 c1 p18 np18 H18 s18 g18 j hj j0 j1
    obtain ⟨v, v0, v1, hat⟩ := at10 j0 j1 c0 c1
    refine r_ixl (.inl (.inl g18)) hat ?_
    clear hat
    walk_at "go"
    rename_i k' hk' k0' k1'
    refine r_setl (s18 _ _ g17) (ixN_ok k0' (by rw [List.length_map, hln]; omega)) ?_
    rw [set_ints]
    generalize hH : upd _ _ _ = H19
    have s19 : Same H16 H19 := Same.old (s17.trans s18) nr hH
    have g19 := at_new hH
    have o19 : (es.set k'.toNat v).length = w.toNat ∧ ∀ x ∈ es.set k'.toNat v, 0 ≤ x ∧ x < 256 := ⟨by rw [List.length_set]; exact hln, fun x hx => by
      rcases List.mem_or_eq_of_mem_set hx with z | z
      · exact hby x z
      · rw [z]; exact ⟨v0, v1⟩⟩
    generalize es.set k'.toNat v = row at g19 o19
    have hS19 := s19.seq hS16
    have gt19 := s19 _ _ gt16
    have hLay19 := hLay16.mono s19
    have z46 : 46 ≤ (layOf s b w).size := w46
    obtain ⟨o1, o2⟩ := o19
    have hln' : es.length = (layOf s b w).size.toNat := hln
    have o1' : row.length = (layOf s b w).size.toNat := o1
    clear hH hk' k0' k1' hc hj j0 j1 c0 c1 s17 s18 g17 g18 np18 gt16
    refine r_cut (fun σ' H' => σ' = [some (.ref a), some (.int num), some (.ref pl), some (.int w), some (.ref lf), some (.ref ln), vk, vm, some (.ref lp), some (.ref x), some (.ref t), some (.ref pg), some (.ref lr)] ∧ Same H19 H') ?_ ?_
    · walk_at "go"
      rename_i l21 n21 H21 s21 g21
      refine i_law_reads rfl (L := layOf s b w) (hLay19.mono s21) (.of g21) hln' z46 z1' hby fun H22 s22 => ?_
      walk_at "go"
      refine i_law_reads rfl (L := layOf s b w) (hLay19.mono (s21.trans s22)) (.of ((s21.trans s22) _ _ g19)) o1' z46 z1' o2 fun H23 s23 => ?_
      walk_at "go"
      exact ⟨rfl, s21.trans (s22.trans s23)⟩
    rintro _ H20 ⟨rfl, s20⟩
    have g20 := s20 _ _ g19
    walk_at "go"
    rename_i v2 hv2 v20 v21 k2 hk2 k20 k21
    refine r_setl g20 (ixN_ok k20 (by rw [List.length_map, o1]; omega)) ?_
    rw [set_ints]
    generalize hH : upd _ _ _ = H21
    have s21 : Same H16 H21 := Same.old (s19.trans s20) nr hH
    have g21 := at_new hH
    have o21 : (row.set k2.toNat v2).length = (layOf s b w).size.toNat ∧ ∀ x ∈ row.set k2.toNat v2, 0 ≤ x ∧ x < 256 := ⟨by rw [List.length_set]; exact o1', fun x hx => by
      rcases List.mem_or_eq_of_mem_set hx with z | z
      · exact o2 x z
      · rw [z]; exact ⟨v20, by omega⟩⟩
    generalize row.set k2.toNat v2 = row2 at g21 o21
    walk_at "go"
    refine i_law_reads rfl (L := layOf s b w) (hLay16.mono s21) (.of g21) o21.1 z46 z1' o21.2 fun H22 s22 => ?_
    have hS22 := (s21.trans s22).seq hS16
    walk_at "go"
    exact q _
end
theorem all_mk {l : PySem.W.OpenLaw} {w : World} {K : PySem.W.Frag} {h : Heap} {mg : Str → Option Value} {fa C_Superblock C_Layout f_number_octets f_number_of f_is_text f_octets_of f_text_of f_is_code f_filled f_pieces f_Superblock___init f_is_snapshot_name f_encode_superblock f_decode_superblock f_slot_octets f_name_in f_Layout___init f_parts_of f_law_row f_law_layout f_law_char f_law_text f_law_name f_law_slot f_law_octets f_law_good f_law_reads f_law_is f_law_texts f_law k_BLOCK_SIZES : Addr} (X : K.In h) (G : h.Ns mainGlobals mg) (hfa : mg "law" = some (.ref fa))
    {od_number_octets an_number_octets od_number_of an_number_of od_is_text an_is_text od_octets_of an_octets_of od_text_of an_text_of od_is_code an_is_code od_filled an_filled od_pieces an_pieces od_Superblock___init an_Superblock___init od_is_snapshot_name an_is_snapshot_name od_encode_superblock an_encode_superblock od_decode_superblock an_decode_superblock od_slot_octets an_slot_octets od_name_in an_name_in od_Layout___init an_Layout___init od_parts_of an_parts_of od_law_row an_law_row od_law_layout an_law_layout od_law_char an_law_char od_law_text an_law_text od_law_name an_law_name od_law_slot an_law_slot od_law_octets an_law_octets od_law_good an_law_good od_law_reads an_law_reads od_law_is an_law_is od_law_texts an_law_texts od_law an_law : Option Addr} {sl_number_octets sl_number_of sl_is_text sl_octets_of sl_text_of sl_is_code sl_filled sl_pieces sl_Superblock___init sl_is_snapshot_name sl_encode_superblock sl_decode_superblock sl_slot_octets sl_name_in sl_Layout___init sl_parts_of sl_law_row sl_law_layout sl_law_char sl_law_text sl_law_name sl_law_slot sl_law_octets sl_law_good sl_law_reads sl_law_is sl_law_texts sl_law : Array (Option Value)} {oc_number_octets kV_number_octets dc_number_octets pm_number_octets cd_number_octets ct_number_octets oc_number_of kV_number_of dc_number_of pm_number_of cd_number_of ct_number_of oc_is_text kV_is_text dc_is_text pm_is_text cd_is_text ct_is_text oc_octets_of kV_octets_of dc_octets_of pm_octets_of cd_octets_of ct_octets_of oc_text_of kV_text_of dc_text_of pm_text_of cd_text_of ct_text_of oc_is_code kV_is_code dc_is_code pm_is_code cd_is_code ct_is_code oc_filled kV_filled dc_filled pm_filled cd_filled ct_filled oc_pieces kV_pieces dc_pieces pm_pieces cd_pieces ct_pieces oc_Superblock___init kV_Superblock___init dc_Superblock___init pm_Superblock___init cd_Superblock___init ct_Superblock___init oc_is_snapshot_name kV_is_snapshot_name dc_is_snapshot_name pm_is_snapshot_name cd_is_snapshot_name ct_is_snapshot_name oc_encode_superblock kV_encode_superblock dc_encode_superblock pm_encode_superblock cd_encode_superblock ct_encode_superblock oc_decode_superblock kV_decode_superblock dc_decode_superblock pm_decode_superblock cd_decode_superblock ct_decode_superblock oc_slot_octets kV_slot_octets dc_slot_octets pm_slot_octets cd_slot_octets ct_slot_octets oc_name_in kV_name_in dc_name_in pm_name_in cd_name_in ct_name_in oc_Layout___init kV_Layout___init dc_Layout___init pm_Layout___init cd_Layout___init ct_Layout___init oc_parts_of kV_parts_of dc_parts_of pm_parts_of cd_parts_of ct_parts_of oc_law_row kV_law_row dc_law_row pm_law_row cd_law_row ct_law_row oc_law_layout kV_law_layout dc_law_layout pm_law_layout cd_law_layout ct_law_layout oc_law_char kV_law_char dc_law_char pm_law_char cd_law_char ct_law_char oc_law_text kV_law_text dc_law_text pm_law_text cd_law_text ct_law_text oc_law_name kV_law_name dc_law_name pm_law_name cd_law_name ct_law_name oc_law_slot kV_law_slot dc_law_slot pm_law_slot cd_law_slot ct_law_slot oc_law_octets kV_law_octets dc_law_octets pm_law_octets cd_law_octets ct_law_octets oc_law_good kV_law_good dc_law_good pm_law_good cd_law_good ct_law_good oc_law_reads kV_law_reads dc_law_reads pm_law_reads cd_law_reads ct_law_reads oc_law_is kV_law_is dc_law_is pm_law_is cd_law_is ct_law_is oc_law_texts kV_law_texts dc_law_texts pm_law_texts cd_law_texts ct_law_texts oc_law kV_law dc_law pm_law cd_law ct_law : Value}
    {t_FIRST_CODE t_LAST_CODE t_NAMES_END t_NAMES_START t_NAME_SIGNS t_PERCENT t_SIGNS t_SLOT_OCTETS t_SUMMARY_HEAD yt_BLOCK_SIZES_0 yt_BLOCK_SIZES_1 yt_BLOCK_SIZES_2 : Tok}
    {yd_BLOCK_SIZES : Option Addr} {yn_BLOCK_SIZES : Nat} {ys_BLOCK_SIZES : Array (Option Value)}
    (mC_Superblock : PySem.W.nsIn K mainGlobals "Superblock" = some (some (.ref C_Superblock)))
    (pg_Superblock : PySem.W.plainGet K C_Superblock Str.empty = true)
    (hd_Superblock : PySem.W.hasDictIn K C_Superblock = true)
    (po_Superblock : PySem.W.plainOver K C_Superblock = true)
    (sa_Superblock : PySem.W.findIn K (.ref C_Superblock) "__setattr__" = some (some (.builtin "object.__setattr__")))
    (mk_Superblock : PySem.W.makesIn K C_Superblock = true)
    (kc_Superblock : PySem.W.keepIn K (.ref C_Superblock) = true)
    (na_Superblock_size : PySem.W.findIn K (.ref C_Superblock) "size" = some none)
    (na_Superblock_height : PySem.W.findIn K (.ref C_Superblock) "height" = some none)
    (na_Superblock_root : PySem.W.findIn K (.ref C_Superblock) "root" = some none)
    (na_Superblock_names : PySem.W.findIn K (.ref C_Superblock) "names" = some none)
    (mC_Layout : PySem.W.nsIn K mainGlobals "Layout" = some (some (.ref C_Layout)))
    (pg_Layout : PySem.W.plainGet K C_Layout Str.empty = true)
    (hd_Layout : PySem.W.hasDictIn K C_Layout = true)
    (po_Layout : PySem.W.plainOver K C_Layout = true)
    (sa_Layout : PySem.W.findIn K (.ref C_Layout) "__setattr__" = some (some (.builtin "object.__setattr__")))
    (mk_Layout : PySem.W.makesIn K C_Layout = true)
    (kc_Layout : PySem.W.keepIn K (.ref C_Layout) = true)
    (na_Layout_segments : PySem.W.findIn K (.ref C_Layout) "segments" = some none)
    (na_Layout_segment_blocks : PySem.W.findIn K (.ref C_Layout) "segment_blocks" = some none)
    (na_Layout_block_size : PySem.W.findIn K (.ref C_Layout) "block_size" = some none)
    (na_Layout_payload : PySem.W.findIn K (.ref C_Layout) "payload" = some none)
    (na_Layout_limit : PySem.W.findIn K (.ref C_Layout) "limit" = some none)
    (na_Layout_last_id : PySem.W.findIn K (.ref C_Layout) "last_id" = some none)
    (na_Layout_fan : PySem.W.findIn K (.ref C_Layout) "fan" = some none)
    (na_Layout_region_blocks : PySem.W.findIn K (.ref C_Layout) "region_blocks" = some none)
    (na_Layout_device_blocks : PySem.W.findIn K (.ref C_Layout) "device_blocks" = some none)
    (a_number_octets : PySem.W.nsIn K mainGlobals "number_octets" = some (some (.ref f_number_octets)))
    (l_number_octets : K.lookup f_number_octets = some ⟨oc_number_octets, od_number_octets, .func (PySem.W.fnOf "number_octets" "number_octets" (defArgs s_number_octets) (defBody s_number_octets) (defScope s_number_octets) .none kV_number_octets dc_number_octets pm_number_octets an_number_octets cd_number_octets ct_number_octets), sl_number_octets⟩)
    (c_number_octets : PySem.W.codeIn K cd_number_octets "number_octets" = true)
    (k_number_octets : PySem.W.keepIn K (.ref f_number_octets) = true)
    (a_number_of : PySem.W.nsIn K mainGlobals "number_of" = some (some (.ref f_number_of)))
    (l_number_of : K.lookup f_number_of = some ⟨oc_number_of, od_number_of, .func (PySem.W.fnOf "number_of" "number_of" (defArgs s_number_of) (defBody s_number_of) (defScope s_number_of) .none kV_number_of dc_number_of pm_number_of an_number_of cd_number_of ct_number_of), sl_number_of⟩)
    (c_number_of : PySem.W.codeIn K cd_number_of "number_of" = true)
    (k_number_of : PySem.W.keepIn K (.ref f_number_of) = true)
    (a_is_text : PySem.W.nsIn K mainGlobals "is_text" = some (some (.ref f_is_text)))
    (l_is_text : K.lookup f_is_text = some ⟨oc_is_text, od_is_text, .func (PySem.W.fnOf "is_text" "is_text" (defArgs s_is_text) (defBody s_is_text) (defScope s_is_text) .none kV_is_text dc_is_text pm_is_text an_is_text cd_is_text ct_is_text), sl_is_text⟩)
    (c_is_text : PySem.W.codeIn K cd_is_text "is_text" = true)
    (k_is_text : PySem.W.keepIn K (.ref f_is_text) = true)
    (a_octets_of : PySem.W.nsIn K mainGlobals "octets_of" = some (some (.ref f_octets_of)))
    (l_octets_of : K.lookup f_octets_of = some ⟨oc_octets_of, od_octets_of, .func (PySem.W.fnOf "octets_of" "octets_of" (defArgs s_octets_of) (defBody s_octets_of) (defScope s_octets_of) .none kV_octets_of dc_octets_of pm_octets_of an_octets_of cd_octets_of ct_octets_of), sl_octets_of⟩)
    (c_octets_of : PySem.W.codeIn K cd_octets_of "octets_of" = true)
    (k_octets_of : PySem.W.keepIn K (.ref f_octets_of) = true)
    (a_text_of : PySem.W.nsIn K mainGlobals "text_of" = some (some (.ref f_text_of)))
    (l_text_of : K.lookup f_text_of = some ⟨oc_text_of, od_text_of, .func (PySem.W.fnOf "text_of" "text_of" (defArgs s_text_of) (defBody s_text_of) (defScope s_text_of) .none kV_text_of dc_text_of pm_text_of an_text_of cd_text_of ct_text_of), sl_text_of⟩)
    (c_text_of : PySem.W.codeIn K cd_text_of "text_of" = true)
    (k_text_of : PySem.W.keepIn K (.ref f_text_of) = true)
    (a_is_code : PySem.W.nsIn K mainGlobals "_is_code" = some (some (.ref f_is_code)))
    (l_is_code : K.lookup f_is_code = some ⟨oc_is_code, od_is_code, .func (PySem.W.fnOf "_is_code" "_is_code" (defArgs s_is_code) (defBody s_is_code) (defScope s_is_code) .none kV_is_code dc_is_code pm_is_code an_is_code cd_is_code ct_is_code), sl_is_code⟩)
    (c_is_code : PySem.W.codeIn K cd_is_code "_is_code" = true)
    (k_is_code : PySem.W.keepIn K (.ref f_is_code) = true)
    (a_filled : PySem.W.nsIn K mainGlobals "filled" = some (some (.ref f_filled)))
    (l_filled : K.lookup f_filled = some ⟨oc_filled, od_filled, .func (PySem.W.fnOf "filled" "filled" (defArgs s_filled) (defBody s_filled) (defScope s_filled) .none kV_filled dc_filled pm_filled an_filled cd_filled ct_filled), sl_filled⟩)
    (c_filled : PySem.W.codeIn K cd_filled "filled" = true)
    (k_filled : PySem.W.keepIn K (.ref f_filled) = true)
    (a_pieces : PySem.W.nsIn K mainGlobals "pieces" = some (some (.ref f_pieces)))
    (l_pieces : K.lookup f_pieces = some ⟨oc_pieces, od_pieces, .func (PySem.W.fnOf "pieces" "pieces" (defArgs s_pieces) (defBody s_pieces) (defScope s_pieces) .none kV_pieces dc_pieces pm_pieces an_pieces cd_pieces ct_pieces), sl_pieces⟩)
    (c_pieces : PySem.W.codeIn K cd_pieces "pieces" = true)
    (k_pieces : PySem.W.keepIn K (.ref f_pieces) = true)
    (a_Superblock___init : PySem.W.findIn K (.ref C_Superblock) "__init__" = some (some (.ref f_Superblock___init)))
    (i_Superblock___init : PySem.W.isFn K (.ref f_Superblock___init) = true)
    (l_Superblock___init : K.lookup f_Superblock___init = some ⟨oc_Superblock___init, od_Superblock___init, .func (PySem.W.fnOf "__init__" "Superblock.__init__" (defArgs s_Superblock___init) (defBody s_Superblock___init) (defScope s_Superblock___init) .none kV_Superblock___init dc_Superblock___init pm_Superblock___init an_Superblock___init cd_Superblock___init ct_Superblock___init), sl_Superblock___init⟩)
    (c_Superblock___init : PySem.W.codeIn K cd_Superblock___init "Superblock.__init__" = true)
    (k_Superblock___init : PySem.W.keepIn K (.ref f_Superblock___init) = true)
    (a_is_snapshot_name : PySem.W.nsIn K mainGlobals "is_snapshot_name" = some (some (.ref f_is_snapshot_name)))
    (l_is_snapshot_name : K.lookup f_is_snapshot_name = some ⟨oc_is_snapshot_name, od_is_snapshot_name, .func (PySem.W.fnOf "is_snapshot_name" "is_snapshot_name" (defArgs s_is_snapshot_name) (defBody s_is_snapshot_name) (defScope s_is_snapshot_name) .none kV_is_snapshot_name dc_is_snapshot_name pm_is_snapshot_name an_is_snapshot_name cd_is_snapshot_name ct_is_snapshot_name), sl_is_snapshot_name⟩)
    (c_is_snapshot_name : PySem.W.codeIn K cd_is_snapshot_name "is_snapshot_name" = true)
    (k_is_snapshot_name : PySem.W.keepIn K (.ref f_is_snapshot_name) = true)
    (a_encode_superblock : PySem.W.nsIn K mainGlobals "encode_superblock" = some (some (.ref f_encode_superblock)))
    (l_encode_superblock : K.lookup f_encode_superblock = some ⟨oc_encode_superblock, od_encode_superblock, .func (PySem.W.fnOf "encode_superblock" "encode_superblock" (defArgs s_encode_superblock) (defBody s_encode_superblock) (defScope s_encode_superblock) .none kV_encode_superblock dc_encode_superblock pm_encode_superblock an_encode_superblock cd_encode_superblock ct_encode_superblock), sl_encode_superblock⟩)
    (c_encode_superblock : PySem.W.codeIn K cd_encode_superblock "encode_superblock" = true)
    (k_encode_superblock : PySem.W.keepIn K (.ref f_encode_superblock) = true)
    (a_decode_superblock : PySem.W.nsIn K mainGlobals "decode_superblock" = some (some (.ref f_decode_superblock)))
    (l_decode_superblock : K.lookup f_decode_superblock = some ⟨oc_decode_superblock, od_decode_superblock, .func (PySem.W.fnOf "decode_superblock" "decode_superblock" (defArgs s_decode_superblock) (defBody s_decode_superblock) (defScope s_decode_superblock) .none kV_decode_superblock dc_decode_superblock pm_decode_superblock an_decode_superblock cd_decode_superblock ct_decode_superblock), sl_decode_superblock⟩)
    (c_decode_superblock : PySem.W.codeIn K cd_decode_superblock "decode_superblock" = true)
    (k_decode_superblock : PySem.W.keepIn K (.ref f_decode_superblock) = true)
    (a_slot_octets : PySem.W.nsIn K mainGlobals "_slot_octets" = some (some (.ref f_slot_octets)))
    (l_slot_octets : K.lookup f_slot_octets = some ⟨oc_slot_octets, od_slot_octets, .func (PySem.W.fnOf "_slot_octets" "_slot_octets" (defArgs s_slot_octets) (defBody s_slot_octets) (defScope s_slot_octets) .none kV_slot_octets dc_slot_octets pm_slot_octets an_slot_octets cd_slot_octets ct_slot_octets), sl_slot_octets⟩)
    (c_slot_octets : PySem.W.codeIn K cd_slot_octets "_slot_octets" = true)
    (k_slot_octets : PySem.W.keepIn K (.ref f_slot_octets) = true)
    (a_name_in : PySem.W.nsIn K mainGlobals "_name_in" = some (some (.ref f_name_in)))
    (l_name_in : K.lookup f_name_in = some ⟨oc_name_in, od_name_in, .func (PySem.W.fnOf "_name_in" "_name_in" (defArgs s_name_in) (defBody s_name_in) (defScope s_name_in) .none kV_name_in dc_name_in pm_name_in an_name_in cd_name_in ct_name_in), sl_name_in⟩)
    (c_name_in : PySem.W.codeIn K cd_name_in "_name_in" = true)
    (k_name_in : PySem.W.keepIn K (.ref f_name_in) = true)
    (a_Layout___init : PySem.W.findIn K (.ref C_Layout) "__init__" = some (some (.ref f_Layout___init)))
    (i_Layout___init : PySem.W.isFn K (.ref f_Layout___init) = true)
    (l_Layout___init : K.lookup f_Layout___init = some ⟨oc_Layout___init, od_Layout___init, .func (PySem.W.fnOf "__init__" "Layout.__init__" (defArgs s_Layout___init) (defBody s_Layout___init) (defScope s_Layout___init) .none kV_Layout___init dc_Layout___init pm_Layout___init an_Layout___init cd_Layout___init ct_Layout___init), sl_Layout___init⟩)
    (c_Layout___init : PySem.W.codeIn K cd_Layout___init "Layout.__init__" = true)
    (k_Layout___init : PySem.W.keepIn K (.ref f_Layout___init) = true)
    (a_parts_of : PySem.W.nsIn K mainGlobals "parts_of" = some (some (.ref f_parts_of)))
    (l_parts_of : K.lookup f_parts_of = some ⟨oc_parts_of, od_parts_of, .func (PySem.W.fnOf "parts_of" "parts_of" (defArgs s_parts_of) (defBody s_parts_of) (defScope s_parts_of) .none kV_parts_of dc_parts_of pm_parts_of an_parts_of cd_parts_of ct_parts_of), sl_parts_of⟩)
    (c_parts_of : PySem.W.codeIn K cd_parts_of "parts_of" = true)
    (k_parts_of : PySem.W.keepIn K (.ref f_parts_of) = true)
    (a_law_row : PySem.W.nsIn K mainGlobals "_law_row" = some (some (.ref f_law_row)))
    (l_law_row : K.lookup f_law_row = some ⟨oc_law_row, od_law_row, .func (PySem.W.fnOf "_law_row" "_law_row" (defArgs s_law_row) (defBody s_law_row) (defScope s_law_row) .none kV_law_row dc_law_row pm_law_row an_law_row cd_law_row ct_law_row), sl_law_row⟩)
    (c_law_row : PySem.W.codeIn K cd_law_row "_law_row" = true)
    (k_law_row : PySem.W.keepIn K (.ref f_law_row) = true)
    (a_law_layout : PySem.W.nsIn K mainGlobals "_law_layout" = some (some (.ref f_law_layout)))
    (l_law_layout : K.lookup f_law_layout = some ⟨oc_law_layout, od_law_layout, .func (PySem.W.fnOf "_law_layout" "_law_layout" (defArgs s_law_layout) (defBody s_law_layout) (defScope s_law_layout) .none kV_law_layout dc_law_layout pm_law_layout an_law_layout cd_law_layout ct_law_layout), sl_law_layout⟩)
    (c_law_layout : PySem.W.codeIn K cd_law_layout "_law_layout" = true)
    (k_law_layout : PySem.W.keepIn K (.ref f_law_layout) = true)
    (a_law_char : PySem.W.nsIn K mainGlobals "_law_char" = some (some (.ref f_law_char)))
    (l_law_char : K.lookup f_law_char = some ⟨oc_law_char, od_law_char, .func (PySem.W.fnOf "_law_char" "_law_char" (defArgs s_law_char) (defBody s_law_char) (defScope s_law_char) .none kV_law_char dc_law_char pm_law_char an_law_char cd_law_char ct_law_char), sl_law_char⟩)
    (c_law_char : PySem.W.codeIn K cd_law_char "_law_char" = true)
    (k_law_char : PySem.W.keepIn K (.ref f_law_char) = true)
    (a_law_text : PySem.W.nsIn K mainGlobals "_law_text" = some (some (.ref f_law_text)))
    (l_law_text : K.lookup f_law_text = some ⟨oc_law_text, od_law_text, .func (PySem.W.fnOf "_law_text" "_law_text" (defArgs s_law_text) (defBody s_law_text) (defScope s_law_text) .none kV_law_text dc_law_text pm_law_text an_law_text cd_law_text ct_law_text), sl_law_text⟩)
    (c_law_text : PySem.W.codeIn K cd_law_text "_law_text" = true)
    (k_law_text : PySem.W.keepIn K (.ref f_law_text) = true)
    (a_law_name : PySem.W.nsIn K mainGlobals "_law_name" = some (some (.ref f_law_name)))
    (l_law_name : K.lookup f_law_name = some ⟨oc_law_name, od_law_name, .func (PySem.W.fnOf "_law_name" "_law_name" (defArgs s_law_name) (defBody s_law_name) (defScope s_law_name) .none kV_law_name dc_law_name pm_law_name an_law_name cd_law_name ct_law_name), sl_law_name⟩)
    (c_law_name : PySem.W.codeIn K cd_law_name "_law_name" = true)
    (k_law_name : PySem.W.keepIn K (.ref f_law_name) = true)
    (a_law_slot : PySem.W.nsIn K mainGlobals "_law_slot" = some (some (.ref f_law_slot)))
    (l_law_slot : K.lookup f_law_slot = some ⟨oc_law_slot, od_law_slot, .func (PySem.W.fnOf "_law_slot" "_law_slot" (defArgs s_law_slot) (defBody s_law_slot) (defScope s_law_slot) .none kV_law_slot dc_law_slot pm_law_slot an_law_slot cd_law_slot ct_law_slot), sl_law_slot⟩)
    (c_law_slot : PySem.W.codeIn K cd_law_slot "_law_slot" = true)
    (k_law_slot : PySem.W.keepIn K (.ref f_law_slot) = true)
    (a_law_octets : PySem.W.nsIn K mainGlobals "_law_octets" = some (some (.ref f_law_octets)))
    (l_law_octets : K.lookup f_law_octets = some ⟨oc_law_octets, od_law_octets, .func (PySem.W.fnOf "_law_octets" "_law_octets" (defArgs s_law_octets) (defBody s_law_octets) (defScope s_law_octets) .none kV_law_octets dc_law_octets pm_law_octets an_law_octets cd_law_octets ct_law_octets), sl_law_octets⟩)
    (c_law_octets : PySem.W.codeIn K cd_law_octets "_law_octets" = true)
    (k_law_octets : PySem.W.keepIn K (.ref f_law_octets) = true)
    (a_law_good : PySem.W.nsIn K mainGlobals "_law_good" = some (some (.ref f_law_good)))
    (l_law_good : K.lookup f_law_good = some ⟨oc_law_good, od_law_good, .func (PySem.W.fnOf "_law_good" "_law_good" (defArgs s_law_good) (defBody s_law_good) (defScope s_law_good) .none kV_law_good dc_law_good pm_law_good an_law_good cd_law_good ct_law_good), sl_law_good⟩)
    (c_law_good : PySem.W.codeIn K cd_law_good "_law_good" = true)
    (k_law_good : PySem.W.keepIn K (.ref f_law_good) = true)
    (a_law_reads : PySem.W.nsIn K mainGlobals "_law_reads" = some (some (.ref f_law_reads)))
    (l_law_reads : K.lookup f_law_reads = some ⟨oc_law_reads, od_law_reads, .func (PySem.W.fnOf "_law_reads" "_law_reads" (defArgs s_law_reads) (defBody s_law_reads) (defScope s_law_reads) .none kV_law_reads dc_law_reads pm_law_reads an_law_reads cd_law_reads ct_law_reads), sl_law_reads⟩)
    (c_law_reads : PySem.W.codeIn K cd_law_reads "_law_reads" = true)
    (k_law_reads : PySem.W.keepIn K (.ref f_law_reads) = true)
    (a_law_is : PySem.W.nsIn K mainGlobals "_law_is" = some (some (.ref f_law_is)))
    (l_law_is : K.lookup f_law_is = some ⟨oc_law_is, od_law_is, .func (PySem.W.fnOf "_law_is" "_law_is" (defArgs s_law_is) (defBody s_law_is) (defScope s_law_is) .none kV_law_is dc_law_is pm_law_is an_law_is cd_law_is ct_law_is), sl_law_is⟩)
    (c_law_is : PySem.W.codeIn K cd_law_is "_law_is" = true)
    (k_law_is : PySem.W.keepIn K (.ref f_law_is) = true)
    (a_law_texts : PySem.W.nsIn K mainGlobals "_law_texts" = some (some (.ref f_law_texts)))
    (l_law_texts : K.lookup f_law_texts = some ⟨oc_law_texts, od_law_texts, .func (PySem.W.fnOf "_law_texts" "_law_texts" (defArgs s_law_texts) (defBody s_law_texts) (defScope s_law_texts) .none kV_law_texts dc_law_texts pm_law_texts an_law_texts cd_law_texts ct_law_texts), sl_law_texts⟩)
    (c_law_texts : PySem.W.codeIn K cd_law_texts "_law_texts" = true)
    (k_law_texts : PySem.W.keepIn K (.ref f_law_texts) = true)
    (a_law : PySem.W.nsIn K mainGlobals "law" = some (some (.ref f_law)))
    (l_law : K.lookup f_law = some ⟨oc_law, od_law, .func (PySem.W.fnOf "law" "law" (defArgs s_law) (defBody s_law) (defScope s_law) .none kV_law dc_law pm_law an_law cd_law ct_law), sl_law⟩)
    (c_law : PySem.W.codeIn K cd_law "law" = true)
    (k_law : PySem.W.keepIn K (.ref f_law) = true)
    (q_BLOCK_SIZES : PySem.W.nsIn K mainGlobals "BLOCK_SIZES" = some (some (.ref k_BLOCK_SIZES)))
    (y_BLOCK_SIZES : K.lookup k_BLOCK_SIZES = some ⟨.type "tuple", yd_BLOCK_SIZES, .seq #[.int 64 yt_BLOCK_SIZES_0, .int 128 yt_BLOCK_SIZES_1, .int 256 yt_BLOCK_SIZES_2] yn_BLOCK_SIZES, ys_BLOCK_SIZES⟩)
    (q_FIRST_CODE : PySem.W.nsIn K mainGlobals "FIRST_CODE" = some (some (.int 32 t_FIRST_CODE)))
    (q_LAST_CODE : PySem.W.nsIn K mainGlobals "LAST_CODE" = some (some (.int 126 t_LAST_CODE)))
    (q_NAMES_END : PySem.W.nsIn K mainGlobals "NAMES_END" = some (some (.int 46 t_NAMES_END)))
    (q_NAMES_START : PySem.W.nsIn K mainGlobals "NAMES_START" = some (some (.int 7 t_NAMES_START)))
    (q_NAME_SIGNS : PySem.W.nsIn K mainGlobals "NAME_SIGNS" = some (some (.int 12 t_NAME_SIGNS)))
    (q_PERCENT : PySem.W.nsIn K mainGlobals "PERCENT" = some (some (.int 37 t_PERCENT)))
    (q_SIGNS : PySem.W.nsIn K mainGlobals "SIGNS" = some (some (.str " !\"#$ &'()*+,-./0123456789:;<=>?@ABCDEFGHIJKLMNOPQRSTUVWXYZ[\\]^_`abcdefghijklmnopqrstuvwxyz{|}~" t_SIGNS)))
    (q_SLOT_OCTETS : PySem.W.nsIn K mainGlobals "SLOT_OCTETS" = some (some (.int 13 t_SLOT_OCTETS)))
    (q_SUMMARY_HEAD : PySem.W.nsIn K mainGlobals "SUMMARY_HEAD" = some (some (.int 16 t_SUMMARY_HEAD)))
    (n_all : PySem.W.nsIn K mainGlobals "all" = some none)
    (n_any : PySem.W.nsIn K mainGlobals "any" = some none)
    (n_bool : PySem.W.nsIn K mainGlobals "bool" = some none)
    (n_int : PySem.W.nsIn K mainGlobals "int" = some none)
    (n_isinstance : PySem.W.nsIn K mainGlobals "isinstance" = some none)
    (n_len : PySem.W.nsIn K mainGlobals "len" = some none)
    (n_list : PySem.W.nsIn K mainGlobals "list" = some none)
    (n_ord : PySem.W.nsIn K mainGlobals "ord" = some none)
    (n_range : PySem.W.nsIn K mainGlobals "range" = some none)
    (n_reversed : PySem.W.nsIn K mainGlobals "reversed" = some none)
    (n_tuple : PySem.W.nsIn K mainGlobals "tuple" = some none)
    : ∃ fd : FuncData, (∀ (s : Shared) (v : Value), BindsTo s fd ⟨[v], []⟩ [("script", v)]) ∧ ∀ base : Heap, K.In base → base.Ns mainGlobals mg → FnOk l.prog w K mg base CX0 7 fa fd ["script"] (spLaw K) := by
  have e := hfa.symm.trans (PySem.W.mg_of X G a_law)
  cases e
  have F_number_octets := fun_mk (st := s_number_octets) l_number_octets c_number_octets k_number_octets
  have b_number_octets := F_number_octets.binds (ps := ["number", "count"]) fun _ _ _ _ _ _ us hl => match us, hl with | [_, _], _ => rfl
  have F_number_of := fun_mk (st := s_number_of) l_number_of c_number_of k_number_of
  have b_number_of := F_number_of.binds (ps := ["octets"]) fun _ _ _ _ _ _ us hl => match us, hl with | [_], _ => rfl
  have F_is_text := fun_mk (st := s_is_text) l_is_text c_is_text k_is_text
  have b_is_text := F_is_text.binds (ps := ["text"]) fun _ _ _ _ _ _ us hl => match us, hl with | [_], _ => rfl
  have F_octets_of := fun_mk (st := s_octets_of) l_octets_of c_octets_of k_octets_of
  have b_octets_of := F_octets_of.binds (ps := ["text"]) fun _ _ _ _ _ _ us hl => match us, hl with | [_], _ => rfl
  have F_text_of := fun_mk (st := s_text_of) l_text_of c_text_of k_text_of
  have b_text_of := F_text_of.binds (ps := ["octets"]) fun _ _ _ _ _ _ us hl => match us, hl with | [_], _ => rfl
  have F_is_code := fun_mk (st := s_is_code) l_is_code c_is_code k_is_code
  have b_is_code := F_is_code.binds (ps := ["number"]) fun _ _ _ _ _ _ us hl => match us, hl with | [_], _ => rfl
  have F_filled := fun_mk (st := s_filled) l_filled c_filled k_filled
  have b_filled := F_filled.binds (ps := ["numbers", "count"]) fun _ _ _ _ _ _ us hl => match us, hl with | [_, _], _ => rfl
  have F_pieces := fun_mk (st := s_pieces) l_pieces c_pieces k_pieces
  have b_pieces := F_pieces.binds (ps := ["numbers", "size"]) fun _ _ _ _ _ _ us hl => match us, hl with | [_, _], _ => rfl
  have F_Superblock___init := fun_mk (st := s_Superblock___init) l_Superblock___init c_Superblock___init k_Superblock___init
  have b_Superblock___init := F_Superblock___init.binds (ps := ["self", "size", "height", "root", "names"]) fun _ _ _ _ _ _ us hl => match us, hl with | [_, _, _, _, _], _ => rfl
  have F_is_snapshot_name := fun_mk (st := s_is_snapshot_name) l_is_snapshot_name c_is_snapshot_name k_is_snapshot_name
  have b_is_snapshot_name := F_is_snapshot_name.binds (ps := ["text"]) fun _ _ _ _ _ _ us hl => match us, hl with | [_], _ => rfl
  have F_encode_superblock := fun_mk (st := s_encode_superblock) l_encode_superblock c_encode_superblock k_encode_superblock
  have b_encode_superblock := F_encode_superblock.binds (ps := ["layout", "superblock"]) fun _ _ _ _ _ _ us hl => match us, hl with | [_, _], _ => rfl
  have F_decode_superblock := fun_mk (st := s_decode_superblock) l_decode_superblock c_decode_superblock k_decode_superblock
  have b_decode_superblock := F_decode_superblock.binds (ps := ["octets"]) fun _ _ _ _ _ _ us hl => match us, hl with | [_], _ => rfl
  have F_slot_octets := fun_mk (st := s_slot_octets) l_slot_octets c_slot_octets k_slot_octets
  have b_slot_octets := F_slot_octets.binds (ps := ["name"]) fun _ _ _ _ _ _ us hl => match us, hl with | [_], _ => rfl
  have F_name_in := fun_mk (st := s_name_in) l_name_in c_name_in k_name_in
  have b_name_in := F_name_in.binds (ps := ["slot"]) fun _ _ _ _ _ _ us hl => match us, hl with | [_], _ => rfl
  have F_Layout___init := fun_mk (st := s_Layout___init) l_Layout___init c_Layout___init k_Layout___init
  have b_Layout___init := F_Layout___init.binds (ps := ["self", "segments", "segment_blocks", "block_size"]) fun _ _ _ _ _ _ us hl => match us, hl with | [_, _, _, _], _ => rfl
  have F_parts_of := fun_mk (st := s_parts_of) l_parts_of c_parts_of k_parts_of
  have b_parts_of := F_parts_of.binds (ps := ["number", "size"]) fun _ _ _ _ _ _ us hl => match us, hl with | [_, _], _ => rfl
  have F_law_row := fun_mk (st := s_law_row) l_law_row c_law_row k_law_row
  have b_law_row := F_law_row.binds (ps := ["script", "k"]) fun _ _ _ _ _ _ us hl => match us, hl with | [_, _], _ => rfl
  have F_law_layout := fun_mk (st := s_law_layout) l_law_layout c_law_layout k_law_layout
  have b_law_layout := F_law_layout.binds (ps := ["number"]) fun _ _ _ _ _ _ us hl => match us, hl with | [_], _ => rfl
  have F_law_char := fun_mk (st := s_law_char) l_law_char c_law_char k_law_char
  have b_law_char := F_law_char.binds (ps := ["number"]) fun _ _ _ _ _ _ us hl => match us, hl with | [_], _ => rfl
  have F_law_text := fun_mk (st := s_law_text) l_law_text c_law_text k_law_text
  have b_law_text := F_law_text.binds (ps := ["number", "count"]) fun _ _ _ _ _ _ us hl => match us, hl with | [_, _], _ => rfl
  have F_law_name := fun_mk (st := s_law_name) l_law_name c_law_name k_law_name
  have b_law_name := F_law_name.binds (ps := ["number"]) fun _ _ _ _ _ _ us hl => match us, hl with | [_], _ => rfl
  have F_law_slot := fun_mk (st := s_law_slot) l_law_slot c_law_slot k_law_slot
  have b_law_slot := F_law_slot.binds (ps := ["name"]) fun _ _ _ _ _ _ us hl => match us, hl with | [_], _ => rfl
  have F_law_octets := fun_mk (st := s_law_octets) l_law_octets c_law_octets k_law_octets
  have b_law_octets := F_law_octets.binds (ps := ["fields", "names", "width"]) fun _ _ _ _ _ _ us hl => match us, hl with | [_, _, _], _ => rfl
  have F_law_good := fun_mk (st := s_law_good) l_law_good c_law_good k_law_good
  have b_law_good := F_law_good.binds (ps := ["octets"]) fun _ _ _ _ _ _ us hl => match us, hl with | [_], _ => rfl
  have F_law_reads := fun_mk (st := s_law_reads) l_law_reads c_law_reads k_law_reads
  have b_law_reads := F_law_reads.binds (ps := ["layout", "octets"]) fun _ _ _ _ _ _ us hl => match us, hl with | [_, _], _ => rfl
  have F_law_is := fun_mk (st := s_law_is) l_law_is c_law_is k_law_is
  have b_law_is := F_law_is.binds (ps := ["actual", "due"]) fun _ _ _ _ _ _ us hl => match us, hl with | [_, _], _ => rfl
  have F_law_texts := fun_mk (st := s_law_texts) l_law_texts c_law_texts k_law_texts
  have b_law_texts := F_law_texts.binds (ps := ["number"]) fun _ _ _ _ _ _ us hl => match us, hl with | [_], _ => rfl
  have F_law := fun_mk (st := s_law) l_law c_law k_law
  have b_law := F_law.binds (ps := ["script"]) fun _ _ _ _ _ _ us hl => match us, hl with | [_], _ => rfl
  let T : Txt K mg := {
    a_number_octets := f_number_octets,
    fd_number_octets := _,
    F_number_octets := F_number_octets,
    b_number_octets := b_number_octets,
    m_number_octets := PySem.W.mg_of X G a_number_octets,
    a_number_of := f_number_of,
    fd_number_of := _,
    F_number_of := F_number_of,
    b_number_of := b_number_of,
    m_number_of := PySem.W.mg_of X G a_number_of,
    a_is_text := f_is_text,
    fd_is_text := _,
    F_is_text := F_is_text,
    b_is_text := b_is_text,
    m_is_text := PySem.W.mg_of X G a_is_text,
    a_octets_of := f_octets_of,
    fd_octets_of := _,
    F_octets_of := F_octets_of,
    b_octets_of := b_octets_of,
    m_octets_of := PySem.W.mg_of X G a_octets_of,
    a_text_of := f_text_of,
    fd_text_of := _,
    F_text_of := F_text_of,
    b_text_of := b_text_of,
    m_text_of := PySem.W.mg_of X G a_text_of,
    a_is_code := f_is_code,
    fd_is_code := _,
    F_is_code := F_is_code,
    b_is_code := b_is_code,
    m_is_code := PySem.W.mg_of X G a_is_code,
    a_filled := f_filled,
    fd_filled := _,
    F_filled := F_filled,
    b_filled := b_filled,
    m_filled := PySem.W.mg_of X G a_filled,
    a_pieces := f_pieces,
    fd_pieces := _,
    F_pieces := F_pieces,
    b_pieces := b_pieces,
    m_pieces := PySem.W.mg_of X G a_pieces,
    a_Superblock___init := f_Superblock___init,
    fd_Superblock___init := _,
    F_Superblock___init := F_Superblock___init,
    b_Superblock___init := b_Superblock___init,
    a_is_snapshot_name := f_is_snapshot_name,
    fd_is_snapshot_name := _,
    F_is_snapshot_name := F_is_snapshot_name,
    b_is_snapshot_name := b_is_snapshot_name,
    m_is_snapshot_name := PySem.W.mg_of X G a_is_snapshot_name,
    a_encode_superblock := f_encode_superblock,
    fd_encode_superblock := _,
    F_encode_superblock := F_encode_superblock,
    b_encode_superblock := b_encode_superblock,
    m_encode_superblock := PySem.W.mg_of X G a_encode_superblock,
    a_decode_superblock := f_decode_superblock,
    fd_decode_superblock := _,
    F_decode_superblock := F_decode_superblock,
    b_decode_superblock := b_decode_superblock,
    m_decode_superblock := PySem.W.mg_of X G a_decode_superblock,
    a_slot_octets := f_slot_octets,
    fd_slot_octets := _,
    F_slot_octets := F_slot_octets,
    b_slot_octets := b_slot_octets,
    m_slot_octets := PySem.W.mg_of X G a_slot_octets,
    a_name_in := f_name_in,
    fd_name_in := _,
    F_name_in := F_name_in,
    b_name_in := b_name_in,
    m_name_in := PySem.W.mg_of X G a_name_in,
    a_Layout___init := f_Layout___init,
    fd_Layout___init := _,
    F_Layout___init := F_Layout___init,
    b_Layout___init := b_Layout___init,
    a_parts_of := f_parts_of,
    fd_parts_of := _,
    F_parts_of := F_parts_of,
    b_parts_of := b_parts_of,
    m_parts_of := PySem.W.mg_of X G a_parts_of,
    a_law_row := f_law_row,
    fd_law_row := _,
    F_law_row := F_law_row,
    b_law_row := b_law_row,
    m_law_row := PySem.W.mg_of X G a_law_row,
    a_law_layout := f_law_layout,
    fd_law_layout := _,
    F_law_layout := F_law_layout,
    b_law_layout := b_law_layout,
    m_law_layout := PySem.W.mg_of X G a_law_layout,
    a_law_char := f_law_char,
    fd_law_char := _,
    F_law_char := F_law_char,
    b_law_char := b_law_char,
    m_law_char := PySem.W.mg_of X G a_law_char,
    a_law_text := f_law_text,
    fd_law_text := _,
    F_law_text := F_law_text,
    b_law_text := b_law_text,
    m_law_text := PySem.W.mg_of X G a_law_text,
    a_law_name := f_law_name,
    fd_law_name := _,
    F_law_name := F_law_name,
    b_law_name := b_law_name,
    m_law_name := PySem.W.mg_of X G a_law_name,
    a_law_slot := f_law_slot,
    fd_law_slot := _,
    F_law_slot := F_law_slot,
    b_law_slot := b_law_slot,
    m_law_slot := PySem.W.mg_of X G a_law_slot,
    a_law_octets := f_law_octets,
    fd_law_octets := _,
    F_law_octets := F_law_octets,
    b_law_octets := b_law_octets,
    m_law_octets := PySem.W.mg_of X G a_law_octets,
    a_law_good := f_law_good,
    fd_law_good := _,
    F_law_good := F_law_good,
    b_law_good := b_law_good,
    m_law_good := PySem.W.mg_of X G a_law_good,
    a_law_reads := f_law_reads,
    fd_law_reads := _,
    F_law_reads := F_law_reads,
    b_law_reads := b_law_reads,
    m_law_reads := PySem.W.mg_of X G a_law_reads,
    a_law_is := f_law_is,
    fd_law_is := _,
    F_law_is := F_law_is,
    b_law_is := b_law_is,
    m_law_is := PySem.W.mg_of X G a_law_is,
    a_law_texts := f_law_texts,
    fd_law_texts := _,
    F_law_texts := F_law_texts,
    b_law_texts := b_law_texts,
    m_law_texts := PySem.W.mg_of X G a_law_texts,
    a_law := fa,
    fd_law := _,
    F_law := F_law,
    b_law := b_law,
    m_law := PySem.W.mg_of X G a_law,
    A_Superblock := C_Superblock,
    m_Superblock := PySem.W.mg_of X G mC_Superblock,
    cl_Superblock := ⟨pg_Superblock, hd_Superblock, po_Superblock, sa_Superblock⟩,
    M_Superblock := ⟨mk_Superblock, a_Superblock___init, i_Superblock___init, kc_Superblock⟩,
    na_Superblock_size := na_Superblock_size,
    na_Superblock_height := na_Superblock_height,
    na_Superblock_root := na_Superblock_root,
    na_Superblock_names := na_Superblock_names,
    A_Layout := C_Layout,
    m_Layout := PySem.W.mg_of X G mC_Layout,
    cl_Layout := ⟨pg_Layout, hd_Layout, po_Layout, sa_Layout⟩,
    M_Layout := ⟨mk_Layout, a_Layout___init, i_Layout___init, kc_Layout⟩,
    na_Layout_segments := na_Layout_segments,
    na_Layout_segment_blocks := na_Layout_segment_blocks,
    na_Layout_block_size := na_Layout_block_size,
    na_Layout_payload := na_Layout_payload,
    na_Layout_limit := na_Layout_limit,
    na_Layout_last_id := na_Layout_last_id,
    na_Layout_fan := na_Layout_fan,
    na_Layout_region_blocks := na_Layout_region_blocks,
    na_Layout_device_blocks := na_Layout_device_blocks,
    a_BLOCK_SIZES := k_BLOCK_SIZES,
    c_BLOCK_SIZES := PySem.W.mg_of X G q_BLOCK_SIZES,
    r_BLOCK_SIZES := rfl,
    v_BLOCK_SIZES := fun _ => .inr ⟨_, _, _, y_BLOCK_SIZES, rfl, rfl, Nat.le_of_ble_eq_true rfl, (.cons ⟨_, rfl⟩ (.cons ⟨_, rfl⟩ (.cons ⟨_, rfl⟩ .nil)))⟩,
    t_FIRST_CODE := t_FIRST_CODE,
    c_FIRST_CODE := PySem.W.mg_of X G q_FIRST_CODE,
    r_FIRST_CODE := ⟨_, rfl⟩,
    t_LAST_CODE := t_LAST_CODE,
    c_LAST_CODE := PySem.W.mg_of X G q_LAST_CODE,
    r_LAST_CODE := ⟨_, rfl⟩,
    t_NAMES_END := t_NAMES_END,
    c_NAMES_END := PySem.W.mg_of X G q_NAMES_END,
    r_NAMES_END := ⟨_, rfl⟩,
    t_NAMES_START := t_NAMES_START,
    c_NAMES_START := PySem.W.mg_of X G q_NAMES_START,
    r_NAMES_START := ⟨_, rfl⟩,
    t_NAME_SIGNS := t_NAME_SIGNS,
    c_NAME_SIGNS := PySem.W.mg_of X G q_NAME_SIGNS,
    r_NAME_SIGNS := ⟨_, rfl⟩,
    t_PERCENT := t_PERCENT,
    c_PERCENT := PySem.W.mg_of X G q_PERCENT,
    r_PERCENT := ⟨_, rfl⟩,
    t_SIGNS := t_SIGNS,
    c_SIGNS := PySem.W.mg_of X G q_SIGNS,
    r_SIGNS := ⟨_, rfl⟩,
    t_SLOT_OCTETS := t_SLOT_OCTETS,
    c_SLOT_OCTETS := PySem.W.mg_of X G q_SLOT_OCTETS,
    r_SLOT_OCTETS := ⟨_, rfl⟩,
    t_SUMMARY_HEAD := t_SUMMARY_HEAD,
    c_SUMMARY_HEAD := PySem.W.mg_of X G q_SUMMARY_HEAD,
    r_SUMMARY_HEAD := ⟨_, rfl⟩,
    n_all := PySem.W.mg_none_of X G n_all,
    n_any := PySem.W.mg_none_of X G n_any,
    n_bool := PySem.W.mg_none_of X G n_bool,
    n_int := PySem.W.mg_none_of X G n_int,
    n_isinstance := PySem.W.mg_none_of X G n_isinstance,
    n_len := PySem.W.mg_none_of X G n_len,
    n_list := PySem.W.mg_none_of X G n_list,
    n_ord := PySem.W.mg_none_of X G n_ord,
    n_range := PySem.W.mg_none_of X G n_range,
    n_reversed := PySem.W.mg_none_of X G n_reversed,
    n_tuple := PySem.W.mg_none_of X G n_tuple }
  exact ⟨_, fun s v => .of_eq rfl, fun base _ _ => ok_law T⟩
theorem walk {l : PySem.W.OpenLaw} {q : Program} {loose : List Str} {XP : (Str → Option Value) → Heap → Prop} {YP : World → Heap → Prop} {d : DefRec} {K : Params → PySem.W.Frag} (hn : l.most = some 63) (hdf : d.params.defaults = [])
    (hY : ∀ (w : World) (h : Heap), YP w h → (K w.params).In h)
    (F : ∀ (w : World) (mg : Str → Option Value) (fa : Addr) (h : Heap), (K w.params).In h → h.Ns mainGlobals mg → mg d.name = some (.ref fa) →
      ∃ fd : FuncData, (∀ (s : Shared) (u : Value), BindsTo s fd ⟨[u], []⟩ [("script", u)]) ∧ ∀ base : Heap, (K w.params).In base → base.Ns mainGlobals mg → FnOk l.prog w (K w.params) mg base CX0 7 fa fd ["script"] (spLaw (K w.params))) :
    PySem.W.WalkO q loose XP YP l.row.toRowW d [] (fun f vs => PySem.call f vs) :=
  L2.walk_of (n := 63) (k := 7) (x := "script") (CX := fun _ => CX0) (sp := fun w => spLaw (K w.params)) hn (by decide) hdf ⟨rfl, by decide, by decide⟩ hY F (fun _ _ a ns hl hO hS => ⟨a, ns, rfl, hS, hl, fun _ => rfl⟩) fun _ _ _ _ _ z => z
end Sg

open PySem PySem.W PyProof.Rows in
set_option maxRecDepth 100000 in
set_option maxHeartbeats 0 in
theorem PySem.Challenge.cw_segmentfs_k48_superblock_as_octets_holds : PySem.Challenge.rw_segmentfs_k48_superblock_as_octets.Holds := by
  w_on; o_law; k_head; (case hw => w_witness2)
  k_fill
  refine Sg.walk (l := PySem.Challenge.rw_segmentfs_k48_superblock_as_octets) rfl rfl (fun w h Y => PySem.W.kIn_of Y) ?F
  case F =>
    intro w mg fa h KX G hmg
    refine' Sg.all_mk KX G hmg ?mC_Superblock ?pg_Superblock ?hd_Superblock ?po_Superblock ?sa_Superblock ?mk_Superblock ?kc_Superblock ?na_Superblock_size ?na_Superblock_height ?na_Superblock_root ?na_Superblock_names ?mC_Layout ?pg_Layout ?hd_Layout ?po_Layout ?sa_Layout ?mk_Layout ?kc_Layout ?na_Layout_segments ?na_Layout_segment_blocks ?na_Layout_block_size ?na_Layout_payload ?na_Layout_limit ?na_Layout_last_id ?na_Layout_fan ?na_Layout_region_blocks ?na_Layout_device_blocks ?a_number_octets ?l_number_octets ?c_number_octets ?k_number_octets ?a_number_of ?l_number_of ?c_number_of ?k_number_of ?a_is_text ?l_is_text ?c_is_text ?k_is_text ?a_octets_of ?l_octets_of ?c_octets_of ?k_octets_of ?a_text_of ?l_text_of ?c_text_of ?k_text_of ?a_is_code ?l_is_code ?c_is_code ?k_is_code ?a_filled ?l_filled ?c_filled ?k_filled ?a_pieces ?l_pieces ?c_pieces ?k_pieces ?a_Superblock___init ?i_Superblock___init ?l_Superblock___init ?c_Superblock___init ?k_Superblock___init ?a_is_snapshot_name ?l_is_snapshot_name ?c_is_snapshot_name ?k_is_snapshot_name ?a_encode_superblock ?l_encode_superblock ?c_encode_superblock ?k_encode_superblock ?a_decode_superblock ?l_decode_superblock ?c_decode_superblock ?k_decode_superblock ?a_slot_octets ?l_slot_octets ?c_slot_octets ?k_slot_octets ?a_name_in ?l_name_in ?c_name_in ?k_name_in ?a_Layout___init ?i_Layout___init ?l_Layout___init ?c_Layout___init ?k_Layout___init ?a_parts_of ?l_parts_of ?c_parts_of ?k_parts_of ?a_law_row ?l_law_row ?c_law_row ?k_law_row ?a_law_layout ?l_law_layout ?c_law_layout ?k_law_layout ?a_law_char ?l_law_char ?c_law_char ?k_law_char ?a_law_text ?l_law_text ?c_law_text ?k_law_text ?a_law_name ?l_law_name ?c_law_name ?k_law_name ?a_law_slot ?l_law_slot ?c_law_slot ?k_law_slot ?a_law_octets ?l_law_octets ?c_law_octets ?k_law_octets ?a_law_good ?l_law_good ?c_law_good ?k_law_good ?a_law_reads ?l_law_reads ?c_law_reads ?k_law_reads ?a_law_is ?l_law_is ?c_law_is ?k_law_is ?a_law_texts ?l_law_texts ?c_law_texts ?k_law_texts ?a_law ?l_law ?c_law ?k_law ?q_BLOCK_SIZES ?y_BLOCK_SIZES ?q_FIRST_CODE ?q_LAST_CODE ?q_NAMES_END ?q_NAMES_START ?q_NAME_SIGNS ?q_PERCENT ?q_SIGNS ?q_SLOT_OCTETS ?q_SUMMARY_HEAD ?n_all ?n_any ?n_bool ?n_int ?n_isinstance ?n_len ?n_list ?n_ord ?n_range ?n_reversed ?n_tuple
    (case mC_Superblock => k_is)
    (case pg_Superblock => k_is)
    (case hd_Superblock => k_is)
    (case po_Superblock => k_is)
    (case sa_Superblock => k_is)
    (case mk_Superblock => k_is)
    (case kc_Superblock => k_is)
    (case na_Superblock_size => k_is)
    (case na_Superblock_height => k_is)
    (case na_Superblock_root => k_is)
    (case na_Superblock_names => k_is)
    (case mC_Layout => k_is)
    (case pg_Layout => k_is)
    (case hd_Layout => k_is)
    (case po_Layout => k_is)
    (case sa_Layout => k_is)
    (case mk_Layout => k_is)
    (case kc_Layout => k_is)
    (case na_Layout_segments => k_is)
    (case na_Layout_segment_blocks => k_is)
    (case na_Layout_block_size => k_is)
    (case na_Layout_payload => k_is)
    (case na_Layout_limit => k_is)
    (case na_Layout_last_id => k_is)
    (case na_Layout_fan => k_is)
    (case na_Layout_region_blocks => k_is)
    (case na_Layout_device_blocks => k_is)
    (case a_number_octets => k_is)
    (case l_number_octets => k_is)
    (case c_number_octets => k_is)
    (case k_number_octets => k_is)
    (case a_number_of => k_is)
    (case l_number_of => k_is)
    (case c_number_of => k_is)
    (case k_number_of => k_is)
    (case a_is_text => k_is)
    (case l_is_text => k_is)
    (case c_is_text => k_is)
    (case k_is_text => k_is)
    (case a_octets_of => k_is)
    (case l_octets_of => k_is)
    (case c_octets_of => k_is)
    (case k_octets_of => k_is)
    (case a_text_of => k_is)
    (case l_text_of => k_is)
    (case c_text_of => k_is)
    (case k_text_of => k_is)
    (case a_is_code => k_is)
    (case l_is_code => k_is)
    (case c_is_code => k_is)
    (case k_is_code => k_is)
    (case a_filled => k_is)
    (case l_filled => k_is)
    (case c_filled => k_is)
    (case k_filled => k_is)
    (case a_pieces => k_is)
    (case l_pieces => k_is)
    (case c_pieces => k_is)
    (case k_pieces => k_is)
    (case a_Superblock___init => k_is)
    (case i_Superblock___init => k_is)
    (case l_Superblock___init => k_is)
    (case c_Superblock___init => k_is)
    (case k_Superblock___init => k_is)
    (case a_is_snapshot_name => k_is)
    (case l_is_snapshot_name => k_is)
    (case c_is_snapshot_name => k_is)
    (case k_is_snapshot_name => k_is)
    (case a_encode_superblock => k_is)
    (case l_encode_superblock => k_is)
    (case c_encode_superblock => k_is)
    (case k_encode_superblock => k_is)
    (case a_decode_superblock => k_is)
    (case l_decode_superblock => k_is)
    (case c_decode_superblock => k_is)
    (case k_decode_superblock => k_is)
    (case a_slot_octets => k_is)
    (case l_slot_octets => k_is)
    (case c_slot_octets => k_is)
    (case k_slot_octets => k_is)
    (case a_name_in => k_is)
    (case l_name_in => k_is)
    (case c_name_in => k_is)
    (case k_name_in => k_is)
    (case a_Layout___init => k_is)
    (case i_Layout___init => k_is)
    (case l_Layout___init => k_is)
    (case c_Layout___init => k_is)
    (case k_Layout___init => k_is)
    (case a_parts_of => k_is)
    (case l_parts_of => k_is)
    (case c_parts_of => k_is)
    (case k_parts_of => k_is)
    (case a_law_row => k_is)
    (case l_law_row => k_is)
    (case c_law_row => k_is)
    (case k_law_row => k_is)
    (case a_law_layout => k_is)
    (case l_law_layout => k_is)
    (case c_law_layout => k_is)
    (case k_law_layout => k_is)
    (case a_law_char => k_is)
    (case l_law_char => k_is)
    (case c_law_char => k_is)
    (case k_law_char => k_is)
    (case a_law_text => k_is)
    (case l_law_text => k_is)
    (case c_law_text => k_is)
    (case k_law_text => k_is)
    (case a_law_name => k_is)
    (case l_law_name => k_is)
    (case c_law_name => k_is)
    (case k_law_name => k_is)
    (case a_law_slot => k_is)
    (case l_law_slot => k_is)
    (case c_law_slot => k_is)
    (case k_law_slot => k_is)
    (case a_law_octets => k_is)
    (case l_law_octets => k_is)
    (case c_law_octets => k_is)
    (case k_law_octets => k_is)
    (case a_law_good => k_is)
    (case l_law_good => k_is)
    (case c_law_good => k_is)
    (case k_law_good => k_is)
    (case a_law_reads => k_is)
    (case l_law_reads => k_is)
    (case c_law_reads => k_is)
    (case k_law_reads => k_is)
    (case a_law_is => k_is)
    (case l_law_is => k_is)
    (case c_law_is => k_is)
    (case k_law_is => k_is)
    (case a_law_texts => k_is)
    (case l_law_texts => k_is)
    (case c_law_texts => k_is)
    (case k_law_texts => k_is)
    (case a_law => k_is)
    (case l_law => k_is)
    (case c_law => k_is)
    (case k_law => k_is)
    (case q_BLOCK_SIZES => k_is)
    (case y_BLOCK_SIZES => k_is)
    (case q_FIRST_CODE => k_is)
    (case q_LAST_CODE => k_is)
    (case q_NAMES_END => k_is)
    (case q_NAMES_START => k_is)
    (case q_NAME_SIGNS => k_is)
    (case q_PERCENT => k_is)
    (case q_SIGNS => k_is)
    (case q_SLOT_OCTETS => k_is)
    (case q_SUMMARY_HEAD => k_is)
    (case n_all => k_is)
    (case n_any => k_is)
    (case n_bool => k_is)
    (case n_int => k_is)
    (case n_isinstance => k_is)
    (case n_len => k_is)
    (case n_list => k_is)
    (case n_ord => k_is)
    (case n_range => k_is)
    (case n_reversed => k_is)
    (case n_tuple => k_is)

