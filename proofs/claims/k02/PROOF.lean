import PyProof.Rows.All
import Wide.All
import OpenK.AllK
import Wide.FinOn
import HandS.ForMost
import HandS.TupLe
import HandS.Gcd
import HandS.IsInst
import HandS.SortInts
import HandS.SortRule
import HandS.Deep
import HandS.SortKw
import KE.DataMinMax
import KE.KEqSeq
import HandS.ExcInit
import HandS.Nested
import KE.KSuper
import KE.KExcSuper
import HandS.FStr
import HandS.WordsExc
import HandS.ExcField
import HandS.ExcIs
import PyProof.Rows.StrDigits
import PySem.Challenge.RW_heapgame_k02_texts_of_layouts
set_option Elab.async false
set_option linter.all false
set_option maxRecDepth 100000
namespace Pf
open PySem L2
/-! ### a def that may be called -/
structure Cal (P : Program) (w : World) (K : PySem.W.Frag) (mg : Str → Option Value) (base : Heap) (x : Str) (k : Nat) (f : Addr) (fd : FuncData) (ps : List Str) (sp : Sp) : Prop where
  ok : FnOk P w K mg base CX0 k f fd ps sp
  mg : mg x = some (.ref f)
  (kp : PySem.W.keepIn K (.ref f) = true)
  b : Binds K fd ps []
/-- an expression asked for its truth -/
def tTru (K : PySem.W.Frag) (ta : TE) : TT := fun σ H R => ta σ H fun v h => ∃ c, TruV K v h c ∧ R c h
theorem pt_truthN {X : Cx} {a : Expr} {ta : TE} (ha : PE X a ta) (he : ∀ whole, isTrue a X.env whole = (do let v ← whole; standAt a.pos; holding [v] (truthy v)) := by intro _; rfl) : PT X a (tTru X.K ta) := pt_truth ha he
theorem room65 {A : Around} {k : Nat} (hr : Room (k + 1) A) : A.units + 65 < cLine := by have := hr.un; omega
/-! ### the readings, one step each -/
section
variable {K : PySem.W.Frag} {σ : St} {H : Hp} {Q : VK} {D : Ends} {ta tb te : TE} {t u : TS} {c : TT}
theorem r_seq (h : t { D with nx := u D } σ H) : tSeq t u D σ H := h
theorem r_seqA {g : TG} (h : te σ H fun x H1 => g x σ H1 (u D)) : tSeq (tAsg te g) u D σ H := h
theorem r_seqD (h : te σ H fun _ H1 => u D σ H1) : tSeq (tDrop te) u D σ H := h
theorem r_seqF {wi : TI} {g : TG} {tb : TS} (h : tFor wi g tb { D with nx := u D } σ H) : tSeq (tFor wi g tb) u D σ H := h
theorem r_seqN (h : u D σ H) : tSeq tNext u D σ H := h
theorem r_seqG (h : ∀ R : St → Hp → Prop, (∀ σ H, u D σ H → R σ H) → t { D with nx := R } σ H) : tSeq t u D σ H := h (u D) fun _ _ x => x
theorem r_asg {g : TG} (h : te σ H fun x H1 => g x σ H1 D.nx) : tAsg te g D σ H := h
theorem r_drop (h : te σ H fun _ H1 => D.nx σ H1) : tDrop te D σ H := h
theorem r_ret (h : te σ H D.rt) : tRet te D σ H := h
theorem r_ifS (h : c σ H fun b H1 => if b = true then t D σ H1 else u D σ H1) : tIfS c t u D σ H := h
theorem r_next (h : D.nx σ H) : tNext D σ H := h
theorem r_cont (h : D.ct σ H) : tCont D σ H := h
theorem r_name {i : Nat} {v : V} {q : St → Hp → Prop} (h : q (σ.set i (some v)) H) : gName i v σ H q := h
theorem r_gnil {q : St → Hp → Prop} (h : q σ H) : gNil [] σ H q := ⟨rfl, h⟩
theorem r_gcons {t : TG} {u : TGs} {v : V} {vs : List V} {q : St → Hp → Prop} (h : t v σ H fun σ' H' => u vs σ' H' q) : gCons t u (v :: vs) σ H q := ⟨v, vs, rfl, h⟩
theorem r_gtup {n : Nat} {t : TGs} {a : Addr} {xs : List V} {q : St → Hp → Prop} (h1 : SqT K H a xs) (h2 : xs.length = n) (h : t xs σ H q) : gTup K n t (.ref a) σ H q := ⟨a, xs, rfl, h1, h2, h⟩
theorem r_gsub {to ti : TE} {t : TSet} {v : V} {q : St → Hp → Prop} (h : to σ H fun o H1 => ti σ H1 fun i H2 => t o i v H2 fun H3 => q σ H3) : gSub to ti t v σ H q := h
theorem r_setL0 {p : Addr} {xs : List V} {k : Int} {j : Nat} {v : V} {q : Hp → Prop} (h1 : H p = some (.lst xs)) (h2 : ixN xs.length k = some j) (h : q (upd H p (.lst (xs.set j v)))) : rSetL (.ref p) (.int k) v H q := ⟨p, xs, k, j, rfl, rfl, h1, h2, h⟩
theorem r_var {i : Nat} {v : V} (h : σ[i]? = some (some v)) (q : Q v H) : tVar i σ H Q := ⟨v, h, q⟩
theorem r_c {v : V} (q : Q v H) : tC v σ H Q := q
theorem r_op {r : R2} (h : ta σ H fun x H1 => tb σ H1 fun y H2 => r x y H2 Q) : tOp r ta tb σ H Q := h
theorem r_un {r : V → Hp → VK → Prop} (h : ta σ H fun x H1 => r x H1 Q) : tUn r ta σ H Q := h
theorem r_I0 {g : Int → Int → V} {i j : Int} (q : Q (g i j) H) : rI0 g (.int i) (.int j) H Q := ⟨i, j, rfl, rfl, q⟩
theorem r_I {C : Int → Int → Prop} {g : Int → Int → V} {i j : Int} (hc : C i j) (q : Q (g i j) H) : rI C g (.int i) (.int j) H Q := ⟨i, j, rfl, rfl, hc, q⟩
theorem r_U {g : Int → V} {i : Int} (q : Q (g i) H) : rU g (.int i) H Q := ⟨i, rfl, q⟩
theorem r_eqI {i j : Int} (q : Q (.bl (decide (i = j))) H) : rEq (.int i) (.int j) H Q := ⟨rfl, by rw [show decide (V.int i = V.int j) = decide (i = j) by simp]; exact q⟩
theorem r_neI {i j : Int} (q : Q (.bl (!decide (i = j))) H) : rNe (.int i) (.int j) H Q := ⟨rfl, by rw [show decide (V.int i = V.int j) = decide (i = j) by simp]; exact q⟩
theorem r_eqB {i j : Bool} (q : Q (.bl (decide (i = j))) H) : rEq (.bl i) (.bl j) H Q := ⟨rfl, by rw [show decide (V.bl i = V.bl j) = decide (i = j) by simp]; exact q⟩
theorem r_neB {i j : Bool} (q : Q (.bl (!decide (i = j))) H) : rNe (.bl i) (.bl j) H Q := ⟨rfl, by rw [show decide (V.bl i = V.bl j) = decide (i = j) by simp]; exact q⟩
theorem r_eq {x y : V} (hs : scal x y = true) (q : Q (.bl (decide (x = y))) H) : rEq x y H Q := ⟨hs, q⟩
theorem r_ne {x y : V} (hs : scal x y = true) (q : Q (.bl (!decide (x = y))) H) : rNe x y H Q := ⟨hs, q⟩
theorem r_test {q : Bool → Hp → Prop} (h : te σ H fun x H' => ∃ k, x = .bl k ∧ q k H') : tTest te σ H q := h
theorem r_B {q : Bool → Hp → Prop} (h : te σ H fun x H' => ∃ k, x = .bl k ∧ q k H') : tB te σ H q := h
theorem r_bl {b : Bool} {q : Bool → Prop} (h : q b) : ∃ k, V.bl b = .bl k ∧ q k := ⟨b, rfl, h⟩
theorem r_rfl {x : St} {A : Prop} (q : A) : x = x ∧ A := ⟨rfl, q⟩
theorem r_eqA {x y : St} {A : Prop} (h : x = y) (q : A) : x = y ∧ A := ⟨h, q⟩
theorem r_wipe {σ1 σ2 : St} {vs : List Nat} {A : Prop} (h : wipe σ1 vs = wipe σ2 vs) (q : A) : wipe σ1 vs = wipe σ2 vs ∧ A := ⟨h, q⟩
theorem r_bl2 {a b : Bool} {A : Bool → Bool → Prop} (h : A a b) : ∃ x y, V.bl a = .bl x ∧ V.bl b = .bl y ∧ A x y := ⟨a, b, rfl, rfl, h⟩
theorem r_yes {q : Bool → Hp → Prop} (h : q true H) : tYes σ H q := h
theorem r_and {a b : TT} {q : Bool → Hp → Prop} (h : a σ H fun c H1 => if c = true then b σ H1 q else q false H1) : L2.tAnd a b σ H q := h
theorem r_or {a b : TT} {q : Bool → Hp → Prop} (h : a σ H fun c H1 => if c = true then q true H1 else b σ H1 q) : L2.tOr a b σ H q := h
theorem r_not {a : TT} {q : Bool → Hp → Prop} (h : a σ H fun c H1 => q (!c) H1) : L2.tNot a σ H q := h
theorem r_andV {a b : TE} (h : a σ H fun x H1 => ∃ c, x = .bl c ∧ if c = true then b σ H1 Q else Q (.bl false) H1) : tAndV a b σ H Q := h
theorem r_orV {a b : TE} (h : a σ H fun x H1 => ∃ c, x = .bl c ∧ if c = true then Q (.bl true) H1 else b σ H1 Q) : tOrV a b σ H Q := h
theorem r_notV {a : TE} (h : a σ H fun x H1 => ∃ c, x = .bl c ∧ Q (.bl (!c)) H1) : tNotV a σ H Q := h
theorem r_ifE {c : TT} (h : c σ H fun b H1 => if b = true then ta σ H1 Q else tb σ H1 Q) : tIf c ta tb σ H Q := h
theorem r_nil {q : List V → Hp → Prop} (h : q [] H) : tNil σ H q := h
theorem r_cons {tr : TA} {q : List V → Hp → Prop} (h : ta σ H fun x H1 => tr σ H1 fun xs H2 => q (x :: xs) H2) : tCons ta tr σ H q := h
theorem r_tup {ts : TA} (h : ts σ H fun xs H1 => xs.length ≤ sizeLine ∧ ∀ p, H1 p = none → Q (.ref p) (upd H1 p (.tup xs))) : tTup ts σ H Q := h
theorem r_lst {ts : TA} (h : ts σ H fun xs H1 => xs.length ≤ sizeLine ∧ ∀ p, H1 p = none → Q (.ref p) (upd H1 p (.lst xs))) : tLst ts σ H Q := h
theorem r_small {xs : List V} {A : Prop} (h : A) (hs : xs.length ≤ sizeLine) : xs.length ≤ sizeLine ∧ A := ⟨hs, h⟩
theorem r_CB {r : List V → Hp → VK → Prop} {ts : TA} (h : ts σ H fun vs H1 => r vs H1 Q) : tCB r ts σ H Q := h
theorem r_call {sp : Sp} {E : XK} {ts : TA} (h : ts σ H fun vs H1 => sp vs H1 Q E) : tCall sp [] E ts σ H Q := by
  have e : (fun vs H1 => sp (vs ++ []) H1 Q E) = fun vs H1 => sp vs H1 Q E := by
    funext vs H1
    rw [List.append_nil]
  show ts σ H fun vs H1 => sp (vs ++ []) H1 Q E
  rw [e]
  exact h
theorem r_bm {T : String} {r : V → List V → Hp → VK → Prop} {ts : TA} (h : te σ H fun x H1 => tyV K T x H1 ∧ ts σ H1 fun xs H2 => r x xs H2 Q) : tBM K T r te ts σ H Q := h
theorem r_bm0 {T : String} {r : V → List V → Hp → VK → Prop} (h : te σ H fun x H1 => tyV K T x H1 ∧ r x [] H1 Q) : tBM0 K T r te σ H Q := h
theorem ty_lst {p : Addr} {xs : List V} (h : H p = some (.lst xs)) : tyV K "list" (.ref p) H := .inl ⟨rfl, _, .inl (.inl h)⟩
theorem r_app0 {p : Addr} {xs : List V} {y : V} (h : H p = some (.lst xs)) (hs : xs.length < sizeLine) (q : Q .non (upd H p (.lst (xs ++ [y])))) : rAppend (.ref p) [y] H Q := ⟨p, xs, y, rfl, rfl, h, hs, q⟩
theorem r_ixL {p : Addr} {xs : List V} {i : Int} {v : V} (h : SqL K H p xs) (ha : atI xs i = some v) (q : Q v H) : rIxL K (.ref p) (.int i) H Q := ⟨p, xs, i, v, rfl, rfl, h, ha, q⟩
theorem r_ixT {p : Addr} {xs : List V} {i : Int} {v : V} (h : SqT K H p xs) (ha : atI xs i = some v) (q : Q v H) : rIxT K (.ref p) (.int i) H Q := ⟨p, xs, i, v, rfl, rfl, h, ha, q⟩
theorem r_int {i : Int} {A : Int → Prop} {B : Prop} (q : A i) : (∃ j, [V.int i] = [V.int j] ∧ A j) ∨ B := .inl ⟨i, rfl, q⟩
theorem r_lenL {p : Addr} {xs : List V} {A : Addr → List V → Prop} (h : SqL K H p xs) (q : A p xs) : ∃ p' ys, [V.ref p] = [V.ref p'] ∧ (SqL K H p' ys ∨ SqT K H p' ys) ∧ A p' ys := ⟨p, xs, rfl, .inl h, q⟩
theorem r_lenT {p : Addr} {xs : List V} {A : Addr → List V → Prop} (h : SqT K H p xs) (q : A p xs) : ∃ p' ys, [V.ref p] = [V.ref p'] ∧ (SqL K H p' ys ∨ SqT K H p' ys) ∧ A p' ys := ⟨p, xs, rfl, .inr h, q⟩
theorem r_i2 {i j : Int} {A : Int → Int → Prop} (q : A i j) : ∃ i' j', [V.int i, V.int j] = [V.int i', V.int j'] ∧ A i' j' := ⟨i, j, rfl, q⟩
theorem r_i1 {i : Int} {A : Int → Prop} (q : A i) : ∃ i', [V.int i] = [V.int i'] ∧ A i' := ⟨i, rfl, q⟩
theorem r_ite {p A B : Prop} [Decidable p] (h1 : p → A) (h2 : ¬ p → B) : if decide p = true then A else B := by
  by_cases h : p
  · rw [if_pos (decide_eq_true h)]
    exact h1 h
  · rw [if_neg (by simp [h])]
    exact h2 h
theorem r_iteN {p A B : Prop} [Decidable p] (h1 : ¬ p → A) (h2 : p → B) : if (!decide p) = true then A else B := by
  by_cases h : p
  · rw [if_neg (by simp [h])]
    exact h2 h
  · rw [if_pos (by simp [h])]
    exact h1 h
theorem r_iteB {b : Bool} {A B : Prop} (h1 : b = true → A) (h2 : b = false → B) : if b = true then A else B := by
  cases b
  · exact h2 rfl
  · exact h1 rfl
/-! ### loops -/
theorem r_rng1 {j : Int} {A : Int → Prop} (h1 : -(2 ^ 62) ≤ j) (h2 : j < 2 ^ 62) (h : A j) : ∃ j' : Int, [V.int j] = [V.int j'] ∧ -(2 ^ 62) ≤ j' ∧ j' < 2 ^ 62 ∧ A j' := ⟨j, rfl, h1, h2, h⟩
theorem r_rng2 {i j : Int} {A : Int → Int → Prop} (h1 : -(2 ^ 62) ≤ i ∧ i < 2 ^ 62 ∧ -(2 ^ 62) ≤ j ∧ j < 2 ^ 62) (h : A i j) : ∃ i' j' : Int, [V.int i, V.int j] = [V.int i', V.int j'] ∧ (-(2 ^ 62) ≤ i' ∧ i' < 2 ^ 62 ∧ -(2 ^ 62) ≤ j' ∧ j' < 2 ^ 62) ∧ A i' j' := ⟨i, j, rfl, h1, h⟩
theorem r_sl {r : V → Option Int → Option Int → Hp → VK → Prop} {tl th : TO} (h : te σ H fun x H1 => tl σ H1 fun l H2 => th σ H2 fun u H3 => r x l u H3 Q) : tSl r te tl th σ H Q := h
theorem r_noPart {q : Option Int → Hp → Prop} (h : q none H) : tNoPart σ H q := h
theorem r_part {q : Option Int → Hp → Prop} (h : te σ H fun x H1 => ∃ i, x = .int i ∧ q (some i) H1) : tPart te σ H q := h
theorem r_int1 {i : Int} {A : Int → Prop} (h : A i) : ∃ j, V.int i = .int j ∧ A j := ⟨i, rfl, h⟩
theorem r_slT {a : Addr} {xs : List V} {lo hi : Option Int} (h : SqT K H a xs) (hn : ¬ (HT.sIx xs.length 0 lo = 0 ∧ HT.sIx xs.length xs.length hi = xs.length)) (q : ∀ p, H p = none → Q (.ref p) (upd H p (.tup (cutV xs lo hi)))) : rSlT K (.ref a) lo hi H Q := ⟨a, xs, rfl, h, hn, q⟩
theorem r_slL {a : Addr} {xs : List V} {lo hi : Option Int} (h : SqL K H a xs) (q : ∀ p, H p = none → Q (.ref p) (upd H p (.lst (cutV xs lo hi)))) : rSlL K (.ref a) lo hi H Q := ⟨a, xs, rfl, h, q⟩
theorem r_tru {K : PySem.W.Frag} {q : Bool → Hp → Prop} (h : te σ H fun x H' => ∃ k, TruV K x H' k ∧ q k H') : tTru K te σ H q := h
theorem r_truL {p : Addr} {xs : List V} {q : Bool → Prop} (h : SqL K H p xs) (a : q (!xs.isEmpty)) : ∃ k, TruV K (.ref p) H k ∧ q k := ⟨_, .inl ⟨xs, h, rfl⟩, a⟩
/-- a walk: each turn leads on or there is none left; R goes down in its second place -/
def WkH (J : It) (Fin : Hp → Prop) (Turns : V → Hp → (Hp → Prop) → Prop) (h₀ : Hp) : Prop :=
  ∃ R : Nat → Nat → Hp → Prop, (∃ c, R 0 c h₀) ∧ ∀ i c h, R i c h → (J.stop i h ∧ Fin h) ∨ (J.go i h ∧ ∃ B : Hp → Prop, (∀ h', B h' → ∃ c', c' < c ∧ R (i + 1) c' h') ∧ ∀ y h', J.yld i h y h' → Turns y h' B)
/-- the same, with slots -/
def WkS (J : It) (Fin : St → Hp → Prop) (Turns : V → St → Hp → (St → Hp → Prop) → Prop) (s₀ : St) (h₀ : Hp) : Prop :=
  ∃ R : Nat → Nat → St → Hp → Prop, (∃ c, R 0 c s₀ h₀) ∧ ∀ i c s h, R i c s h → (J.stop i h ∧ Fin s h) ∨ (J.go i h ∧ ∃ B : St → Hp → Prop, (∀ s' h', B s' h' → ∃ c', c' < c ∧ R (i + 1) c' s' h') ∧ ∀ y h', J.yld i h y h' → Turns y s h' B)
/-- a walk of n turns: P i holds ahead of the i-th one -/
theorem walkH {J : It} {n : Nat} {h₀ : Hp} {Fin : Hp → Prop} {Turns : V → Hp → (Hp → Prop) → Prop} (P : Nat → Hp → Prop) (start : P 0 h₀) (last : ∀ h, P n h → J.stop n h ∧ Fin h)
    (next : ∀ i h, i < n → P i h → J.go i h ∧ ∀ y h', J.yld i h y h' → Turns y h' (P (i + 1))) : WkH J Fin Turns h₀ := by
  refine ⟨fun i c h => i ≤ n ∧ i + c = n ∧ P i h, ⟨n, Nat.zero_le n, Nat.zero_add n, start⟩, ?_⟩
  rintro i c h ⟨le, sum, p⟩
  rcases Nat.lt_or_ge i n with lt | ge
  · obtain ⟨g, turns⟩ := next i h lt p
    exact Or.inr ⟨g, P (i + 1), fun h' p' => ⟨c - 1, by omega, lt, by omega, p'⟩, turns⟩
  · obtain rfl : i = n := by omega
    exact Or.inl (last h p)
theorem walkS {J : It} {n : Nat} {s₀ : St} {h₀ : Hp} {Fin : St → Hp → Prop} {Turns : V → St → Hp → (St → Hp → Prop) → Prop} (P : Nat → St → Hp → Prop) (start : P 0 s₀ h₀) (last : ∀ s h, P n s h → J.stop n h ∧ Fin s h)
    (next : ∀ i s h, i < n → P i s h → J.go i h ∧ ∀ y h', J.yld i h y h' → Turns y s h' (P (i + 1))) : WkS J Fin Turns s₀ h₀ := by
  refine ⟨fun i c s h => i ≤ n ∧ i + c = n ∧ P i s h, ⟨n, Nat.zero_le n, Nat.zero_add n, start⟩, ?_⟩
  rintro i c s h ⟨le, sum, p⟩
  rcases Nat.lt_or_ge i n with lt | ge
  · obtain ⟨g, turns⟩ := next i s h lt p
    exact Or.inr ⟨g, P (i + 1), fun s' h' p' => ⟨c - 1, by omega, lt, by omega, p'⟩, turns⟩
  · obtain rfl : i = n := by omega
    exact Or.inl (last s h p)
/-- over a range -/
theorem w_range {lo : Int} {n : Nat} {H0 : Hp} {Qd : Hp → Prop} {Body : V → Hp → (Hp → Prop) → Prop} (P : Nat → Hp → Prop) (start : P 0 H0) (hs : ∀ i H, i < n → P i H → Body (.int (lo + i)) H (P (i + 1))) (hd : ∀ H, P n H → Qd H) : WkH (Itr lo n) Qd Body H0 :=
  walkH P start (fun h p => And.intro (Nat.le_refl n) (hd h p)) fun i h lt p => And.intro lt fun y h' yl => by
    rcases yl with ⟨ey, eh⟩
    rw [ey, eh]
    exact hs i h lt p
/-- over a list -/
theorem w_list {K : PySem.W.Frag} {a : Addr} {xs : List V} {H0 : Hp} {Qd : Hp → Prop} {Body : V → Hp → (Hp → Prop) → Prop} (P : Nat → Hp → Prop) (start : P 0 H0) (hl : ∀ i H, i ≤ xs.length → P i H → SqL K H a xs) (hs : ∀ i x H, xs[i]? = some x → P i H → Body x H (P (i + 1))) (hd : ∀ H, P xs.length H → Qd H) : WkH (Itl K a) Qd Body H0 :=
  walkH P start (fun h p => And.intro ⟨xs, hl _ h (Nat.le_refl _) p, Nat.le_refl _⟩ (hd h p)) fun i h lt p => And.intro ⟨xs, xs[i], hl i h (Nat.le_of_lt lt) p, List.getElem?_eq_getElem lt⟩ fun y h' yl => by
    rcases yl with ⟨eh, at_⟩
    rw [eh]
    exact hs i y h (at_ xs (hl i h (Nat.le_of_lt lt) p)) p
theorem r_forS {wi : TI} {g : TG} {tb : TS} (h : wi σ H fun J h1 => WkS J D.nx (fun y s h2 B => g y s h2 (tb { D with nx := B, ct := B, bk := D.nx })) σ h1) : tFor wi g tb D σ H := h
theorem r_lc {wi : TI} {g : TG} {tt : TT} {vs : List Nat} (h : wi σ H fun J h1 => ∀ D, h1 D = none → WkH J (fun h2 => Q (.ref D) h2) (fun y h2 B => g y (wipe σ vs) h2 fun s h3 => wipe s vs = wipe σ vs ∧ tt s h3 fun b h4 => if b = true then te s h4 fun z h5 => ∃ acc, h5 D = some (.lst acc) ∧ acc.length < sizeLine ∧ B (upd h5 D (.lst (acc ++ [z]))) else B h4) (upd h1 D (.lst []))) :
    tLc wi g tt te vs σ H Q := h
theorem r_lc2 {wi : TI} {g : TG} {tt : TT} {wi1 : TI} {g1 : TG} {tt1 : TT} {vs vs1 : List Nat} (h : wi σ H fun J h1 => ∀ D, h1 D = none → WkH J (fun h2 => Q (.ref D) h2) (fun y h2 B => g y (wipe σ vs) h2 fun s h3 => wipe s vs = wipe σ vs ∧ tt s h3 fun b h4 =>
      if b = true then wi1 s h4 fun J1 h5 => WkH J1 B (fun y1 h6 B1 => g1 y1 (wipe s vs1) h6 fun s1 h7 => wipe s1 vs1 = wipe s vs1 ∧ tt1 s1 h7 fun b1 h8 => if b1 = true then te s1 h8 fun z h9 => ∃ acc, h9 D = some (.lst acc) ∧ acc.length < sizeLine ∧ B1 (upd h9 D (.lst (acc ++ [z]))) else B1 h8) h5 else B h4) (upd h1 D (.lst []))) :
    tLc2 wi g tt wi1 g1 tt1 te vs vs1 σ H Q := h
theorem r_ckw {r : List V → List V → Hp → VK → Prop} {ts tk : TA} (h : ts σ H fun vs H1 => tk σ H1 fun zs H2 => r vs zs H2 Q) : tCKw r ts tk σ H Q := h
theorem r_iR1 {tA : TA} {R : It → Hp → Prop} (h : tA σ H fun vs H1 => ∃ j : Int, vs = [V.int j] ∧ -(2 ^ 62) ≤ j ∧ j < 2 ^ 62 ∧ R (Itr 0 j.toNat) H1) : iRng1 tA σ H R := h
theorem r_iR2 {tA : TA} {R : It → Hp → Prop} (h : tA σ H fun vs H1 => ∃ i j : Int, vs = [V.int i, V.int j] ∧ (-(2 ^ 62) ≤ i ∧ i < 2 ^ 62 ∧ -(2 ^ 62) ≤ j ∧ j < 2 ^ 62) ∧ R (Itr i (j - i).toNat) H1) : iRng2 tA σ H R := h
theorem r_iL {tl : TE} {R : It → Hp → Prop} (h : tl σ H fun x H1 => ∃ a, x = V.ref a ∧ (∃ xs, SqL K H1 a xs) ∧ R (Itl K a) H1) : iList K tl σ H R := h
theorem r_iL2 {a : Addr} {xs : List V} {A : Addr → Prop} (h : SqL K H a xs) (q : A a) : ∃ a', V.ref a = V.ref a' ∧ (∃ xs, SqL K H a' xs) ∧ A a' := ⟨a, rfl, ⟨xs, h⟩, q⟩
end
theorem at_int {ns : List Int} {i : Int} (h0 : 0 ≤ i) (h1 : i < (ns.length : Int)) : atI (ns.map V.int) i = some (.int (ns.getD i.toNat 0)) := by
  obtain ⟨j, rfl⟩ : ∃ j : Nat, i = (j : Int) := ⟨i.toNat, by omega⟩
  have hj : j < ns.length := by omega
  refine atI_nat ?_
  rw [List.getElem?_map, List.getElem?_eq_getElem hj, Int.toNat_natCast, List.getD_eq_getElem?_getD, List.getElem?_eq_getElem hj]
  rfl
/-! ### heaps -/
theorem same_upd {H : Hp} {p : Addr} {o : HO} (new : H p = none) : Same H (upd H p o) := fun a u at_ => (upd_ne (ne_of_none at_ new)).trans at_
/-- all that is tracked is as it was, but what stands at b -/
def But (b : Addr) (H H' : Hp) : Prop := ∀ a o, a ≠ b → H a = some o → H' a = some o
theorem But.refl (b : Addr) (H : Hp) : But b H H := fun _ _ _ h => h
theorem But.trans {b : Addr} {H H1 H2 : Hp} (x : But b H H1) (y : But b H1 H2) : But b H H2 := fun a o n e => y a o n (x a o n e)
theorem But.of {b : Addr} {H H' : Hp} (x : Same H H') : But b H H' := fun a o _ e => x a o e
theorem But.upd {b : Addr} {H : Hp} {o : HO} : But b H (upd H b o) := fun a u n e => by rw [upd_ne n]; exact e
theorem But.same {b : Addr} {H H' : Hp} {o : HO} (x : But b H H') (h : H b = some o) (h' : H' b = some o) : Same H H' := fun a u e => by
  by_cases q : a = b
  · rw [q, h] at e
    rw [q, h']
    exact e
  · exact x a u q e
/-- from outside, what is made and then changed was never there -/
theorem But.new {b : Addr} {H0 H H' : Hp} (x : But b H H') (n : H0 b = none) (s : Same H0 H) : Same H0 H' := fun a u e => x a u (ne_of_none e n) (s a u e)
theorem But.seq {K : PySem.W.Frag} {b : Addr} {H H' : Hp} {a : Addr} {xs : List V} (e : But b H H') (n : a ≠ b) (h : SqL K H a xs) : SqL K H' a xs := by
  rcases h with (z | ⟨u, z⟩) | z
  · exact .inl (.inl (e _ _ n z))
  · exact .inl (.inr ⟨u, e _ _ n z⟩)
  · exact .inr z
theorem But.free {b : Addr} {H H' : Hp} {o : HO} (e : But b H H') (hb : H' b = some o) {l : Addr} (h : H' l = Option.none) : H l = Option.none := by
  cases q : H l with
  | none => rfl
  | some u =>
    by_cases n : l = b
    · rw [n, hb] at h
      cases h
    · rw [e l u n q] at h
      cases h
/-! ### the box of draws: [digits, the next one's place] -/
def Bx (H : Hp) (b d : Addr) : Prop := ∃ (ds : List Int) (at_ : Nat), H b = some (.lst [.ref d, .int at_]) ∧ H d = some (.lst (ds.map V.int)) ∧ d ≠ b
section
variable {H H' : Hp} {b d a p : Addr}
theorem Bx.same (h : Bx H b d) (s : Same H H') : Bx H' b d := let ⟨ds, k, e1, e2, n⟩ := h; ⟨ds, k, s _ _ e1, s _ _ e2, n⟩
theorem Bx.but (h : Bx H b d) (s : But p H H') (nb : p ≠ b) (nd : p ≠ d) : Bx H' b d := let ⟨ds, k, e1, e2, n⟩ := h; ⟨ds, k, s _ _ nb.symm e1, s _ _ nd.symm e2, n⟩
theorem Bx.ne (h : Bx H b d) (n : H a = none) : a ≠ b := let ⟨_, _, e, _⟩ := h; fun q => by rw [q, e] at n; cases n
theorem Bx.neD (h : Bx H b d) (n : H a = none) : a ≠ d := let ⟨_, _, _, e, _⟩ := h; fun q => by rw [q, e] at n; cases n
theorem Bx.neT {xs : List V} (h : Bx H b d) (n : H a = some (.tup xs)) : a ≠ b := let ⟨_, _, e, _⟩ := h; fun q => by rw [q, e] at n; cases n
theorem Bx.free (h : Bx H' b d) (e : But b H H') (n : H' a = none) : H a = none := let ⟨_, _, q, _⟩ := h; e.free q n
end
/-! ### the rules that change the heap, the new heap a letter -/
section
variable {K : PySem.W.Frag} {σ : St} {H : Hp} {Q : VK}
theorem r_setL {p : Addr} {xs : List V} {k : Int} {j : Nat} {v : V} {q : Hp → Prop} (h1 : H p = some (.lst xs)) (h2 : ixN xs.length k = some j) (h : ∀ H', H' p = some (.lst (xs.set j v)) → But p H H' → q H') : rSetL (.ref p) (.int k) v H q :=
  ⟨p, xs, k, j, rfl, rfl, h1, h2, h _ upd_same But.upd⟩
theorem r_app {p : Addr} {xs : List V} {y : V} (h : H p = some (.lst xs)) (hs : xs.length < sizeLine) (q : ∀ H', H' p = some (.lst (xs ++ [y])) → But p H H' → Q .non H') : rAppend (.ref p) [y] H Q := ⟨p, xs, y, rfl, rfl, h, hs, q _ upd_same But.upd⟩
@[elab_as_elim] theorem upd_new {p : Addr} {o : HO} {motive : Hp → Prop} (np : H p = none) (h : ∀ H', H' p = some o → Same H H' → motive H') : motive (upd H p o) := h _ upd_same (same_upd np)
end
theorem drop_get {α : Type} {xs : List α} {i : Nat} {x : α} (h : xs[i]? = some x) : xs.drop i = x :: xs.drop (i + 1) := by
  obtain ⟨hi, rfl⟩ := List.getElem?_eq_some_iff.mp h
  exact List.drop_eq_getElem_cons hi
theorem r_cat {H : Hp} {Q : VK} {l b : Addr} {xs zs : List V} (h1 : H l = some (.lst xs)) (h2 : H b = some (.lst zs)) (hs : xs.length + zs.length ≤ sizeLine) (q : ∀ p, H p = none → Q (.ref p) (upd H p (.lst (xs ++ zs)))) : rCat (.ref l) (.ref b) H Q :=
  ⟨l, b, xs, zs, rfl, rfl, h1, h2, hs, q⟩
/-! ### lists of tuples -/
section
variable {α : Type}
/-- at ts stand tuples, f of the xs -/
def TL (f : α → List V) (H : Hp) (ts : List Addr) (xs : List α) : Prop := ts.length = xs.length ∧ ∀ (i : Nat) (t : Addr), ts[i]? = some t → ∃ x, xs[i]? = some x ∧ H t = some (.tup (f x))
/-- at a stands a list of tuples, f of the xs -/
def LT (f : α → List V) (H : Hp) (a : Addr) (xs : List α) : Prop := ∃ ts : List Addr, H a = some (.lst (ts.map V.ref)) ∧ TL f H ts xs
variable {f : α → List V} {H H' : Hp} {ts : List Addr} {xs : List α} {a b : Addr}
theorem TL.nil : TL f H [] ([] : List α) := ⟨rfl, fun i t h => by simp at h⟩
theorem TL.same (h : TL f H ts xs) (s : Same H H') : TL f H' ts xs := ⟨h.1, fun i t e => let ⟨x, e1, e2⟩ := h.2 i t e; ⟨x, e1, s _ _ e2⟩⟩
theorem TL.but {o : List V} (h : TL f H ts xs) (s : But b H H') (hb : H b = some (.lst o)) : TL f H' ts xs := ⟨h.1, fun i t e => let ⟨x, e1, e2⟩ := h.2 i t e; ⟨x, e1, s _ _ (ne_of e2 hb (by intro z; cases z)) e2⟩⟩
theorem TL.snoc {t : Addr} {x : α} (h : TL f H ts xs) (ht : H t = some (.tup (f x))) : TL f H (ts ++ [t]) (xs ++ [x]) := by
  refine ⟨by rw [List.length_append, List.length_append, h.1]; rfl, fun i u e => ?_⟩
  by_cases hi : i < ts.length
  · rw [List.getElem?_append_left hi] at e
    obtain ⟨y, e1, e2⟩ := h.2 i u e
    exact ⟨y, by rw [List.getElem?_append_left (by rw [← h.1]; exact hi)]; exact e1, e2⟩
  · rw [List.getElem?_append_right (by omega)] at e
    have hi0 : i - ts.length = 0 := by
      by_cases q : i - ts.length = 0
      · exact q
      · rw [List.getElem?_eq_none (by simp; omega)] at e
        cases e
    rw [hi0] at e
    have e' : t = u := Option.some.inj e
    subst e'
    exact ⟨x, by rw [List.getElem?_append_right (by rw [← h.1]; omega), ← h.1, hi0]; rfl, ht⟩
theorem TL.get (h : TL f H ts xs) {i : Nat} {x : α} (e : xs[i]? = some x) : ∃ t, ts[i]? = some t ∧ H t = some (.tup (f x)) := by
  have hi : i < ts.length := by rw [h.1]; exact (List.getElem?_eq_some_iff.mp e).1
  obtain ⟨y, e1, e2⟩ := h.2 i _ (List.getElem?_eq_getElem hi)
  rw [e] at e1
  cases e1
  exact ⟨_, List.getElem?_eq_getElem hi, e2⟩
/-- an item of the list, read -/
theorem TL.at (h : TL f H ts xs) {i : Int} (h0 : 0 ≤ i) (h1 : i < (xs.length : Int)) : ∃ x t, xs[i.toNat]? = some x ∧ atI (ts.map V.ref) i = some (.ref t) ∧ H t = some (.tup (f x)) := by
  have hi : i.toNat < xs.length := by omega
  obtain ⟨t, e1, e2⟩ := h.get (List.getElem?_eq_getElem hi)
  refine ⟨_, t, List.getElem?_eq_getElem hi, ?_, e2⟩
  have e : i = ((i.toNat : Nat) : Int) := by omega
  rw [e]
  refine atI_nat ?_
  rw [List.getElem?_map, e1]
  rfl
theorem snoc_of {β : Type} : ∀ {l : List β}, l ≠ [] → ∃ G g, l = G ++ [g]
  | [], h => absurd rfl h
  | [x], _ => ⟨[], x, rfl⟩
  | x :: y :: r, _ => by
    obtain ⟨G, g, e⟩ := snoc_of (l := y :: r) (by simp)
    exact ⟨x :: G, g, by rw [e]; rfl⟩
theorem TL.unsnoc {ys : List α} {y : α} (h : TL f H ts (ys ++ [y])) : ∃ (ts0 : List Addr) (tl : Addr), ts = ts0 ++ [tl] ∧ TL f H ts0 ys ∧ H tl = some (.tup (f y)) := by
  have hl := h.1
  simp only [List.length_append, List.length_cons, List.length_nil] at hl
  obtain ⟨ts0, tl, rfl⟩ : ∃ ts0 tl, ts = ts0 ++ [tl] := by
    have hne : ts ≠ [] := by intro e; rw [e] at hl; simp at hl
    exact snoc_of hne
  simp only [List.length_append, List.length_cons, List.length_nil] at hl
  have hl' : ts0.length = ys.length := by omega
  refine ⟨ts0, tl, rfl, ⟨hl', fun i t e => ?_⟩, ?_⟩
  · have hi := (List.getElem?_eq_some_iff.mp e).1
    obtain ⟨x, e1, e2⟩ := h.2 i t (by rw [List.getElem?_append_left hi]; exact e)
    rw [List.getElem?_append_left (by omega)] at e1
    exact ⟨x, e1, e2⟩
  · obtain ⟨x, e1, e2⟩ := h.2 ts0.length tl (by rw [List.getElem?_append_right (Nat.le_refl _), Nat.sub_self]; rfl)
    rw [hl', List.getElem?_append_right (Nat.le_refl _), Nat.sub_self] at e1
    have e1' : y = x := Option.some.inj e1
    rw [e1']
    exact e2
theorem ixN_last (n : Nat) : ixN (n + 1) (-1) = some n := by
  unfold ixN
  rw [if_neg (by omega), if_pos (by omega)]
  congr 1
  omega
theorem set_last (ts : List Addr) (a b : Addr) : ((ts ++ [a]).map V.ref).set ts.length (V.ref b) = (ts ++ [b]).map V.ref := by
  rw [List.map_append, List.map_append, List.set_append_right _ _ (by rw [List.length_map]; exact Nat.le_refl _), List.length_map, Nat.sub_self]
  rfl
theorem TL.len (h : TL f H ts xs) : (ts.map V.ref).length = xs.length := by rw [List.length_map, h.1]
theorem LT.same (h : LT f H a xs) (s : Same H H') : LT f H' a xs := let ⟨ts, e, q⟩ := h; ⟨ts, s _ _ e, q.same s⟩
theorem LT.but {o : List V} (h : LT f H a xs) (s : But b H H') (hb : H b = some (.lst o)) (n : a ≠ b) : LT f H' a xs := let ⟨ts, e, q⟩ := h; ⟨ts, s _ _ n e, q.but s hb⟩
theorem TL.box (h : TL f H ts xs) (s : But b H H') {d : Addr} (B : Bx H b d) : TL f H' ts xs := let ⟨_, _, e, _⟩ := B; h.but s e
theorem LT.box (h : LT f H a xs) (s : But b H H') {d : Addr} (B : Bx H b d) (n : a ≠ b) : LT f H' a xs := let ⟨_, _, e, _⟩ := B; h.but s e n
end
/-- a block -/
@[reducible] def bV (b : Int × Int) : List V := [.int b.1, .int b.2]
theorem menu {ns : List Int} {r : Int} (h0 : 0 ≤ r) (h1 : r < (ns.length : Int)) : ∃ v, v ∈ ns ∧ atI (ns.map V.int) r = some (.int v) := by
  refine ⟨ns.getD r.toNat 0, ?_, at_int h0 h1⟩
  have hi : r.toNat < ns.length := by omega
  simp only [List.getD_eq_getElem?_getD]
  rw [List.getElem?_eq_getElem hi]
  exact List.getElem_mem hi
/-! ### isinstance -/
section
variable {K : PySem.W.Frag} {H : Hp} {Q : VK}
theorem r_isi {x : V} {t T : String} {b : Bool} (ty : TyOf K H x (.type t)) (e : kitB t T = some b) (q : Q (.bl b) H) : rIsi K [x, .ty T] H Q := ⟨x, _, _, _, b, rfl, .ty T, .base ty, kit_ty e, q⟩
theorem kit_bb : kitB "bool" "bool" = some true := by decide +kernel
theorem kit_ii : kitB "int" "int" = some true := by decide +kernel
theorem kit_ib : kitB "int" "bool" = some false := by decide +kernel
theorem kit_bi : kitB "bool" "int" = some true := by decide +kernel
theorem kit_nb : kitB "NoneType" "bool" = some false := by decide +kernel
theorem kit_nt : kitB "NoneType" "tuple" = some false := by decide +kernel
theorem kit_ll : kitB "list" "list" = some true := by decide +kernel
theorem kit_tt : kitB "tuple" "tuple" = some true := by decide +kernel
theorem kit_ss : kitB "str" "str" = some true := by decide +kernel
theorem kit_lt : kitB "list" "tuple" = some false := by decide +kernel
theorem kit_tl : kitB "tuple" "list" = some false := by decide +kernel
theorem r_isi_ib {i : Int} (q : Q (.bl false) H) : rIsi K [.int i, .ty "bool"] H Q := r_isi (.int i) kit_ib q
theorem r_isi_ii {i : Int} (q : Q (.bl true) H) : rIsi K [.int i, .ty "int"] H Q := r_isi (.int i) kit_ii q
theorem r_isi_bb {i : Bool} (q : Q (.bl true) H) : rIsi K [.bl i, .ty "bool"] H Q := r_isi (.bl i) kit_bb q
theorem r_isi_nb (q : Q (.bl false) H) : rIsi K [.non, .ty "bool"] H Q := r_isi .non kit_nb q
theorem r_isi_nt (q : Q (.bl false) H) : rIsi K [.non, .ty "tuple"] H Q := r_isi .non kit_nt q
theorem r_isi_ll {a : Addr} {xs : List V} (e : H a = some (.lst xs)) (q : Q (.bl true) H) : rIsi K [.ref a, .ty "list"] H Q := r_isi (.lst e) kit_ll q
theorem r_isi_tt {a : Addr} {xs : List V} (e : H a = some (.tup xs)) (q : Q (.bl true) H) : rIsi K [.ref a, .ty "tuple"] H Q := r_isi (.tup e) kit_tt q
end
theorem ite_notT {A B : Prop} (h : B) : if (!true) = true then A else B := h
theorem ite_notF {A B : Prop} (h : A) : if (!false) = true then A else B := h
/-! ### data at any depth -/
class Enc (α : Type) [DecidableEq α] where
  enc : α → PyData
  dep : Nat
  lay : ∀ x, (enc x).canLay0 = true
  dle : ∀ x, (enc x).depth ≤ dep
  eqv : ∀ x y, PyData.eqv (enc x) (enc y) = decide (x = y)
open Enc (enc)
instance encInt : Enc Int := ⟨.int, 0, fun _ => rfl, fun _ => Nat.le_refl _, fun x y => by rw [PyData.eqv]; exact Bool.beq_eq_decide_eq x y⟩
instance encBool : Enc Bool := ⟨.bool, 0, fun _ => rfl, fun _ => Nat.le_refl _, fun x y => by rw [PyData.eqv]; exact Bool.beq_eq_decide_eq x y⟩
theorem layAll {α : Type} [DecidableEq α] [Enc α] : ∀ xs : List α, PyData.canLayAll0 (xs.map enc) = true
  | [] => rfl
  | x :: xs => by rw [List.map_cons, PyData.canLayAll0, Enc.lay x, layAll xs]; rfl
theorem depAll {α : Type} [DecidableEq α] [Enc α] : ∀ xs : List α, PyData.depthAll (xs.map enc) ≤ Enc.dep α
  | [] => by rw [List.map_nil, PyData.depthAll]; exact Nat.zero_le _
  | x :: xs => by
    have h1 := depAll xs
    have h2 := Enc.dle x
    rw [List.map_cons]
    rw [PyData.depthAll]
    omega
theorem eqvAll {α : Type} [DecidableEq α] [Enc α] : ∀ xs ys : List α, PyData.eqvAll (xs.map enc) (ys.map enc) = decide (xs = ys)
  | .nil, .nil => by rw [List.map_nil, PyData.eqvAll]; exact (decide_eq_true rfl).symm
  | .nil, .cons b m => by simp [PyData.eqvAll, List.map_cons]
  | .cons a l, .nil => by simp [PyData.eqvAll, List.map_cons]
  | x :: xs, y :: ys => by
    rw [List.map_cons, List.map_cons, PyData.eqvAll, Enc.eqv, eqvAll xs ys]
    by_cases h : x = y <;> by_cases h' : xs = ys <;> simp [h, h']
instance encList {α : Type} [DecidableEq α] [Enc α] : Enc (List α) := ⟨fun xs => .list (xs.map enc), Enc.dep α + 1, fun xs => by rw [PyData.canLay0]; exact layAll xs,
  fun xs => by have := depAll xs; rw [PyData.depth]; omega, fun xs ys => by rw [PyData.eqv]; exact eqvAll xs ys⟩
instance encPair {α β : Type} [DecidableEq α] [DecidableEq β] [Enc α] [Enc β] : Enc (α × β) := ⟨fun x => .tuple [enc x.1, enc x.2], max (Enc.dep α) (Enc.dep β) + 1,
  fun x => by rw [PyData.canLay0, PyData.canLayAll0, PyData.canLayAll0, PyData.canLayAll0, Enc.lay, Enc.lay]; rfl,
  fun x => by
    have h1 := Enc.dle x.1
    have h2 := Enc.dle x.2
    rw [PyData.depth, PyData.depthAll, PyData.depthAll, PyData.depthAll]
    omega,
  fun x y => by
    rw [PyData.eqv, PyData.eqvAll, PyData.eqvAll, PyData.eqvAll, Enc.eqv, Enc.eqv]
    obtain ⟨a, b⟩ := x
    obtain ⟨c, d⟩ := y
    by_cases h : a = c <;> by_cases h' : b = d <;> simp [h, h']⟩
theorem shapedE {α : Type} [DecidableEq α] [Enc α] (hd : Enc.dep α ≤ 64) (x : α) : SeqAt.shaped (enc x) = true := by
  have h := Enc.dle x
  show ((enc x).canLay0 && decide ((enc x).depth ≤ 64)) = true
  rw [Bool.and_eq_true]
  exact ⟨Enc.lay x, decide_eq_true (by omega)⟩
theorem Same.sqT {K : PySem.W.Frag} {H H' : Hp} {a : Addr} {xs : List V} (e : Same H H') (h : SqT K H a xs) : SqT K H' a xs := by
  rcases h with (z | ⟨u, z⟩) | z
  · exact .inl (.inl (e _ _ z))
  · exact .inl (.inr ⟨u, e _ _ z⟩)
  · exact .inr z
mutual
theorem Dp.same {K : PySem.W.Frag} {H H' : Hp} (s : Same H H') : ∀ (d : PyData) (v : V), Dp K H v d → Dp K H' v d
  | .none, _, h => by cases h; exact .non
  | .bool b, _, h => by cases h; exact .bl b
  | .int i, _, h => by cases h; exact .int i
  | .str x, _, h => by cases h; exact .str x
  | .list ds, _, h => by
    cases h with
    | lst a b => exact .lst (s.seq a) (DpAll.same s ds _ b)
  | .tuple ds, _, h => by
    cases h with
    | tup a b => exact .tup (Same.sqT s a) (DpAll.same s ds _ b)
  | .dict _, _, h => by cases h
theorem DpAll.same {K : PySem.W.Frag} {H H' : Hp} (s : Same H H') : ∀ (ds : List PyData) (vs : List V), DpAll K H vs ds → DpAll K H' vs ds
  | [], _, h => by cases h; exact .nil
  | d :: ds, _, h => by
    cases h with
    | cons a b => exact .cons (Dp.same s d _ a) (DpAll.same s ds _ b)
end
/-- the value v is the datum x -/
def Is {α : Type} [DecidableEq α] [Enc α] (K : PySem.W.Frag) (H : Hp) (v : V) (x : α) : Prop := Dp K H v (enc x)
section
variable {K : PySem.W.Frag} {H H' : Hp} {Q : VK}
theorem Is.same {α : Type} [DecidableEq α] [Enc α] {v : V} {x : α} (h : Is K H v x) (s : Same H H') : Is K H' v x := Dp.same s _ _ h
theorem is_int {i : Int} : Is K H (.int i) i := .int i
theorem is_bl {i : Bool} : Is K H (.bl i) i := .bl i
theorem dpAll_ints : ∀ ns : List Int, DpAll K H (ns.map V.int) (ns.map enc)
  | [] => .nil
  | n :: ns => .cons (.int n) (dpAll_ints ns)
theorem is_ints {a : Addr} {ns : List Int} (h : SqL K H a (ns.map V.int)) : Is K H (.ref a) ns := .lst h (dpAll_ints ns)
theorem is_pair {α β : Type} [DecidableEq α] [DecidableEq β] [Enc α] [Enc β] {a : Addr} {u v : V} {x : α} {y : β} (h : SqT K H a [u, v]) (h1 : Is K H u x) (h2 : Is K H v y) : Is K H (.ref a) (x, y) := .tup h (.cons h1 (.cons h2 .nil))
theorem TL.dp : ∀ {ts : List Addr} {bs : List (Int × Int)}, TL bV H ts bs → DpAll K H (ts.map V.ref) (bs.map enc)
  | [], [], _ => .nil
  | [], _ :: _, h => by have := h.1; simp at this
  | _ :: _, [], h => by have := h.1; simp at this
  | t :: ts, b :: bs, h => by
    obtain ⟨x, e1, e2⟩ := h.2 0 t rfl
    have e1' : b = x := Option.some.inj e1
    subst e1'
    refine .cons (is_pair (SqT.of e2) is_int is_int) (TL.dp ⟨by have := h.1; simpa using this, fun i t' e => ?_⟩)
    obtain ⟨x, e3, e4⟩ := h.2 (i + 1) t' (by simpa using e)
    exact ⟨x, by simpa using e3, e4⟩
theorem LT.is {a : Addr} {bs : List (Int × Int)} (h : LT bV H a bs) : Is K H (.ref a) bs := let ⟨_, e, t⟩ := h; .lst (SqL.of e) t.dp
theorem r_neE {α : Type} [DecidableEq α] [Enc α] {u v : V} {x y : α} (h1 : Is K H u x) (h2 : Is K H v y) (hd : Enc.dep α ≤ 64) (q : Q (.bl (!decide (x = y))) H) : rNeD K u v H Q :=
  ⟨_, _, h1, h2, shapedE hd x, shapedE hd y, by rw [Enc.eqv]; exact q⟩
theorem r_neSame {u v : V} {d : PyData} (h1 : Dp K H u d) (h2 : Dp K H v d) (hs : SeqAt.shaped d = true) (q : Q (.bl false) H) : rNeD K u v H Q :=
  ⟨_, _, h1, h2, hs, hs, by rw [SeqAt.eqv_refl d (SeqAt.canLay_of_shaped hs)]; exact q⟩
theorem r_eqSame {u v : V} {d : PyData} (h1 : Dp K H u d) (h2 : Dp K H v d) (hs : SeqAt.shaped d = true) (q : Q (.bl true) H) : rEqD K u v H Q :=
  ⟨_, _, h1, h2, hs, hs, by rw [SeqAt.eqv_refl d (SeqAt.canLay_of_shaped hs)]; exact q⟩
theorem first_at {β : Type} {x : β} : ∀ {xs : List β}, x ∈ xs → ∃ j : Nat, xs[j]? = some x ∧ ∀ m : Nat, m < j → xs[m]? ≠ some x
  | y :: xs, h => by
    by_cases e : y = x
    · exact ⟨0, by rw [e]; rfl, fun m hm => by omega⟩
    · obtain h | h := List.mem_cons.mp h
      · exact absurd h.symm e
      · obtain ⟨j, h1, h2⟩ := first_at h
        refine ⟨j + 1, by simpa using h1, fun m hm => ?_⟩
        cases m with
        | zero => intro q; exact e (Option.some.inj q)
        | succ m => have := h2 m (by omega); simpa using this
theorem r_indexE {α : Type} [DecidableEq α] [Enc α] {a : Addr} {y : V} {xs : List α} {x : α} (h1 : Is K H (.ref a) xs) (h2 : Is K H y x) (hd : Enc.dep α + 1 ≤ 64) (hm : x ∈ xs) (q : ∀ j : Nat, xs[j]? = some x → Q (.int j) H) : rIndexD K (.ref a) [y] H Q := by
  obtain ⟨j, e1, e2⟩ := first_at hm
  refine ⟨a, y, enc x, xs.map enc, j, enc x, rfl, rfl, h1, h2, shapedE (α := List α) hd xs, shapedE (by omega) x, by rw [List.getElem?_map, e1]; rfl, by rw [Enc.eqv]; simp, fun m z' hm' hz => ?_, q j e1⟩
  rw [List.getElem?_map] at hz
  obtain ⟨u, hu, rfl⟩ := Option.map_eq_some_iff.mp hz
  rw [Enc.eqv]
  exact decide_eq_false fun e => e2 m hm' (by rw [hu, e])
theorem r_eqE {α : Type} [DecidableEq α] [Enc α] {u v : V} {x y : α} (h1 : Is K H u x) (h2 : Is K H v y) (hd : Enc.dep α ≤ 64) (q : Q (.bl (decide (x = y))) H) : rEqD K u v H Q :=
  ⟨_, _, h1, h2, shapedE hd x, shapedE hd y, by rw [Enc.eqv]; exact q⟩
end
/-! ### valid layouts -/
def VL (size : Int) : Int → List (Int × Int) → Prop
  | e, [] => e ≤ size
  | e, (s, l) :: r => e ≤ s ∧ 1 ≤ l ∧ VL size (s + l) r
def endOf : Int → List (Int × Int) → Int
  | e, [] => e
  | _, (s, l) :: r => endOf (s + l) r
theorem VL.snoc {size s l : Int} : ∀ {bs : List (Int × Int)} {e : Int}, VL size e bs → endOf e bs ≤ s → 1 ≤ l → s + l ≤ size → VL size e (bs ++ [(s, l)])
  | [], e, h, h1, h2, h3 => ⟨h1, h2, h3⟩
  | (a, c) :: r, e, h, h1, h2, h3 => ⟨h.1, h.2.1, VL.snoc h.2.2 h1 h2 h3⟩
theorem endOf_snoc {s l : Int} : ∀ (bs : List (Int × Int)) (e : Int), endOf e (bs ++ [(s, l)]) = s + l
  | [], _ => rfl
  | (a, c) :: r, _ => endOf_snoc r (a + c)
theorem VL.end_le {size : Int} : ∀ {bs : List (Int × Int)} {e : Int}, VL size e bs → endOf e bs ≤ size
  | [], _, h => h
  | (s, l) :: r, _, h => VL.end_le (bs := r) (e := s + l) h.2.2
theorem VL.le_size {size : Int} : ∀ {bs : List (Int × Int)} {e : Int}, VL size e bs → e ≤ size
  | [], _, h => h
  | (s, l) :: r, e, h => by
    have := VL.le_size h.2.2
    have := h.1
    have := h.2.1
    omega
theorem VL.mem {size : Int} : ∀ {bs : List (Int × Int)} {e : Int}, VL size e bs → ∀ x ∈ bs, e ≤ x.1 ∧ 1 ≤ x.2 ∧ x.1 + x.2 ≤ size
  | (s, l) :: r, e, h, x, hx => by
    obtain rfl | hx := List.mem_cons.mp hx
    · exact ⟨h.1, h.2.1, h.2.2.le_size⟩
    · have := VL.mem h.2.2 x hx
      have h1 := h.1
      have h2 := h.2.1
      omega
theorem VL.pw {size : Int} : ∀ {bs : List (Int × Int)} {e : Int}, VL size e bs → bs.Pairwise (fun a b => a.1 + a.2 ≤ b.1)
  | [], _, _ => .nil
  | (s, l) :: r, e, h => List.pairwise_cons.mpr ⟨fun x hx => (VL.mem h.2.2 x hx).1, VL.pw h.2.2⟩
/-- the cell's value: one more than the index of its block, or 0 -/
def cellOf (at_ : Int) : Int → List (Int × Int) → Int
  | _, [] => 0
  | k, (s, l) :: r => if s ≤ at_ ∧ at_ < s + l then k + 1 else cellOf at_ (k + 1) r
def Covers (bs : List (Int × Int)) (at_ : Int) : Prop := ∃ x ∈ bs, x.1 ≤ at_ ∧ at_ < x.1 + x.2
theorem cellOf_zero {at_ : Int} : ∀ {bs : List (Int × Int)} {k : Int}, 0 ≤ k → (cellOf at_ k bs = 0 ↔ ¬ Covers bs at_)
  | [], k, _ => by simp [cellOf, Covers]
  | (s, l) :: r, k, hk => by
    unfold cellOf
    by_cases c : s ≤ at_ ∧ at_ < s + l
    · rw [if_pos c]
      constructor
      · intro h; omega
      · intro h; exact absurd ⟨(s, l), List.mem_cons_self, c⟩ h
    · rw [if_neg c, cellOf_zero (bs := r) (by omega)]
      constructor
      · rintro h ⟨x, hx, hc⟩
        obtain rfl | hx := List.mem_cons.mp hx
        · exact c hc
        · exact h ⟨x, hx, hc⟩
      · rintro h ⟨x, hx, hc⟩
        exact h ⟨x, List.mem_cons_of_mem _ hx, hc⟩
theorem cellOf_take {at_ : Int} {size : Int} : ∀ {bs : List (Int × Int)} {e k : Int} {j : Nat} {x : Int × Int}, VL size e bs → bs[j]? = some x → (x.1 ≤ at_ ∧ at_ < x.1 + x.2) → cellOf at_ k bs = k + j + 1
  | (s, l) :: r, e, k, 0, x, h, ex, hc => by
    have e' : (s, l) = x := Option.some.inj ex
    subst e'
    unfold cellOf
    rw [if_pos hc]
    simp
  | (s, l) :: r, e, k, j + 1, x, h, ex, hc => by
    have ex' : r[j]? = some x := by simpa using ex
    have hm := VL.mem h.2.2 x (List.mem_of_getElem? ex')
    unfold cellOf
    rw [if_neg (by omega), cellOf_take h.2.2 ex' hc]
    omega
theorem cellOf_snoc {at_ : Int} {size : Int} : ∀ {bs : List (Int × Int)} {e c : Int} {k : Nat} {x : Int × Int}, VL size e bs → bs[k]? = some x → cellOf at_ c (bs.take (k + 1)) = if x.1 ≤ at_ ∧ at_ < x.1 + x.2 then c + k + 1 else cellOf at_ c (bs.take k)
  | (s, l) :: r, e, c, 0, x, h, ex => by
    have e' : (s, l) = x := Option.some.inj ex
    subst e'
    show cellOf at_ c [(s, l)] = _
    unfold cellOf
    simp only [List.take_zero, cellOf]
    simp
  | (s, l) :: r, e, c, k + 1, x, h, ex => by
    have ex' : r[k]? = some x := by simpa using ex
    have hm := VL.mem h.2.2 x (List.mem_of_getElem? ex')
    have ih := cellOf_snoc (at_ := at_) (c := c + 1) h.2.2 ex'
    rw [List.take_succ_cons, List.take_succ_cons, cellOf, cellOf, ih]
    by_cases q : s ≤ at_ ∧ at_ < s + l
    · rw [if_pos q, if_pos q, if_neg (by omega)]
    · rw [if_neg q, if_neg q]
      by_cases q2 : x.1 ≤ at_ ∧ at_ < x.1 + x.2
      · rw [if_pos q2, if_pos q2]; omega
      · rw [if_neg q2, if_neg q2]
def CellsOf (size : Int) (bs : List (Int × Int)) (cs : List Int) : Prop := (cs.length : Int) = size ∧ ∀ i, i < cs.length → cs[i]? = some (cellOf i 0 bs)
/-! ### maximal rows of zeros -/
def runsTo (c : Nat → Int) : Nat → List (Int × Int)
  | 0 => []
  | i + 1 => if c i = 0 then (if 0 < i ∧ c (i - 1) = 0 then (runsTo c i).dropLast ++ [(((runsTo c i).getLastD (0, 0)).1, ((runsTo c i).getLastD (0, 0)).2 + 1)] else runsTo c i ++ [((i : Int), 1)]) else runsTo c i
theorem runsTo_ne {c : Nat → Int} : ∀ {i : Nat}, 0 < i → c (i - 1) = 0 → runsTo c i ≠ []
  | i + 1, _, h => by
    rw [Nat.add_sub_cancel] at h
    rw [runsTo, if_pos h]
    split <;> simp
theorem runsTo_len {c : Nat → Int} : ∀ i : Nat, (runsTo c i).length ≤ i
  | 0 => Nat.le_refl _
  | i + 1 => by
    have ih := runsTo_len (c := c) i
    rw [runsTo]
    split
    · split
      · rename_i h
        have := runsTo_ne h.1 h.2
        have : 0 < (runsTo c i).length := List.length_pos_iff.mpr this
        simp
        omega
      · simp
        omega
    · omega
def gapsF (size : Int) : Int → List (Int × Int) → List (Int × Int)
  | e, [] => if size > e then [(e, size - e)] else []
  | e, (s, l) :: r => if s > e then (e, s - e) :: gapsF size (s + l) r else gapsF size (s + l) r
theorem runs_free {c : Nat → Int} {e : Nat} {G : List (Int × Int)} (h0 : runsTo c e = G) (hp : e = 0 ∨ c (e - 1) ≠ 0) : ∀ m : Nat, (∀ i, e ≤ i → i < e + m → c i = 0) → runsTo c (e + m) = if 0 < m then G ++ [((e : Int), (m : Int))] else G
  | 0, _ => by simpa using h0
  | m + 1, h => by
    have ih := runs_free h0 hp m (fun i h1 h2 => h i h1 (by omega))
    have hc : c (e + m) = 0 := h _ (by omega) (by omega)
    show runsTo c ((e + m) + 1) = _
    rw [runsTo, if_pos hc, ih]
    by_cases hm : 0 < m
    · have h1 : c (e + m - 1) = 0 := h _ (by omega) (by omega)
      rw [if_pos ⟨by omega, h1⟩, if_pos hm, if_pos (Nat.succ_pos _)]
      simp
    · have hm0 : m = 0 := by omega
      subst hm0
      rw [if_neg hm, if_pos (Nat.succ_pos _), if_neg (by
        rintro ⟨h1, h2⟩
        rcases hp with h3 | h3
        · omega
        · exact h3 h2)]
      simp
theorem runs_used {c : Nat → Int} {s : Nat} : ∀ m : Nat, (∀ i, s ≤ i → i < s + m → c i ≠ 0) → runsTo c (s + m) = runsTo c s
  | 0, _ => rfl
  | m + 1, h => by
    show runsTo c ((s + m) + 1) = _
    rw [runsTo, if_neg (h _ (by omega) (by omega))]
    exact runs_used m (fun i h1 h2 => h i h1 (by omega))
theorem runs_gaps {c : Nat → Int} {n : Nat} : ∀ {bs : List (Int × Int)} {e : Nat} {G : List (Int × Int)}, VL n e bs → (∀ i : Nat, e ≤ i → i < n → (c i = 0 ↔ ¬ Covers bs i)) → runsTo c e = G → (e = 0 ∨ c (e - 1) ≠ 0) → runsTo c n = G ++ gapsF n e bs
  | [], e, G, h, hc, h0, hp => by
    have h' : e ≤ n := by have : (e : Int) ≤ n := h; omega
    obtain ⟨m, rfl⟩ : ∃ m, n = e + m := ⟨n - e, by omega⟩
    rw [runs_free h0 hp m (fun i h1 h2 => (hc i h1 h2).mpr (by simp [Covers])), gapsF]
    by_cases hm : 0 < m
    · rw [if_pos hm, if_pos (by omega)]
      congr 3
      omega
    · rw [if_neg hm, if_neg (by omega)]
      simp
  | (s, l) :: r, e, G, h, hc, h0, hp => by
    obtain ⟨h1, h2, h3⟩ := h
    have h4 := h3.le_size
    obtain ⟨s', rfl⟩ : ∃ s' : Nat, s = s' := ⟨s.toNat, by omega⟩
    obtain ⟨l', rfl⟩ : ∃ l' : Nat, l = l' := ⟨l.toNat, by omega⟩
    obtain ⟨m, rfl⟩ : ∃ m, s' = e + m := ⟨s' - e, by omega⟩
    have nc : ∀ i : Nat, i < e + m → ¬ Covers ((((e + m : Nat) : Int), (l' : Int)) :: r) i := by
      rintro i hi ⟨x, hx, hcx⟩
      obtain rfl | hx := List.mem_cons.mp hx
      · simp only at hcx; omega
      · have := VL.mem h3 x hx
        omega
    have a1 := runs_free h0 hp m (fun i q1 q2 => (hc i q1 (by omega)).mpr (nc i q2))
    have a2 := runs_used (c := c) (s := e + m) l' (fun i q1 q2 q3 => (hc i (by omega) (by omega)).mp q3 ⟨_, List.mem_cons_self, by simp only; omega⟩)
    rw [a1] at a2
    have a3 := runs_gaps (c := c) (n := n) (bs := r) (e := e + m + l') (by rw [Int.natCast_add]; exact h3) (fun i q1 q2 => by
      rw [hc i (by omega) q2]
      constructor
      · rintro q3 ⟨x, hx, hcx⟩
        exact q3 ⟨x, List.mem_cons_of_mem _ hx, hcx⟩
      · rintro q3 ⟨x, hx, hcx⟩
        obtain rfl | hx := List.mem_cons.mp hx
        · simp only at hcx; omega
        · exact q3 ⟨x, hx, hcx⟩) a2 (.inr (fun q => (hc (e + m + l' - 1) (by omega) (by omega)).mp q ⟨_, List.mem_cons_self, by simp only; omega⟩))
    rw [a3, gapsF, Int.natCast_add (e + m) l']
    by_cases hm : 0 < m
    · rw [if_pos hm, if_pos (by omega)]
      simp
      omega
    · rw [if_neg hm, if_neg (by omega)]
/-! ### max(xs, default=d) -/
def rMaxD (K : PySem.W.Frag) : List V → List V → Hp → VK → Prop := fun vs zs H Q => ∃ (a : Addr) (ns : List Int) (d : Int), vs = [V.ref a] ∧ zs = [V.int d] ∧ SqL K H a (ns.map V.int) ∧
  Q (.int (match ns with | [] => d | n :: r => r.foldl max n)) H
theorem alike_ints (ns : List Int) : PySem.W.AlikeAll (ns.map PyData.int) := by
  refine ⟨fun x hx y hy => ?_, fun x hx => ?_⟩
  · obtain ⟨i, _, rfl⟩ := List.mem_map.mp hx
    obtain ⟨j, _, rfl⟩ := List.mem_map.mp hy
    rfl
  · obtain ⟨i, _, rfl⟩ := List.mem_map.mp hx
    intro h
    cases h
theorem cr_maxD {X : Cx} {k : Nat} (hc : X.calm = true) (hr : Room k X.A) : CallRK X (.builtin "max") [Str.ofString "default"] (rMaxD X.K) := by
  rintro pins s σ H vs zs us ws Q I r rz ⟨a, ns, d, rfl, rfl, hs, q⟩
  obtain rfl := Vals.ref1 r
  obtain ⟨w1, rfl, td, rfl⟩ := vals1 rz
  rcases I.list hs with ⟨its, rv, hl, -⟩
  obtain ⟨as, hra⟩ := Dp.readsAll I (ns.map PyData.int) _ its (dpAll_ints ns) rv
  have hu := hr.units
  refine PySem.W.max_list_default (I.ok.hd hc) hl.isList hra (alike_ints ns) (by rw [PySem.W.ke_depthAll]; omega) (fun e h' tk hk => ?_) (fun y ys i v h' tk bs e hv hrd hk => ?_)
  · cases ns with
    | nil => exact ⟨.int d, H, I.kept hk, ⟨_, rfl⟩, q⟩
    | cons n r => cases e
  · cases ns with
    | nil => cases e
    | cons n r =>
      rw [List.map_cons] at e
      injection e with e1 e2
      subst e1 e2
      rw [PySem.W.maxD_ints] at hrd
      cases hrd with
      | int i t => exact ⟨.int _, H, I.kept hk, ⟨_, rfl⟩, q⟩
/-! ### slices -/
theorem cut_take {xs : List V} {i : Nat} (h : i ≤ xs.length) : cutV xs none (some (i : Int)) = xs.take i := by
  unfold cutV
  rw [HT.sIx_none, HT.sIx_nat, List.drop_zero, Nat.sub_zero, Nat.min_eq_left h]
theorem cut_drop {xs : List V} {i : Nat} (h : i ≤ xs.length) : cutV xs (some (i : Int)) none = xs.drop i := by
  unfold cutV
  rw [HT.sIx_none, HT.sIx_nat, Nat.min_eq_left h, List.take_of_length_le]
  rw [List.length_drop]
  exact Nat.le_refl _
theorem TL.take {α : Type} {f : α → List V} {H : Hp} {ts : List Addr} {xs : List α} (h : TL f H ts xs) (n : Nat) : TL f H (ts.take n) (xs.take n) := by
  refine ⟨by rw [List.length_take, List.length_take, h.1], fun i t e => ?_⟩
  rw [List.getElem?_take] at e
  split at e
  · rename_i hi
    obtain ⟨x, e1, e2⟩ := h.2 i t e
    exact ⟨x, by rw [List.getElem?_take, if_pos hi]; exact e1, e2⟩
  · cases e
theorem TL.drop {α : Type} {f : α → List V} {H : Hp} {ts : List Addr} {xs : List α} (h : TL f H ts xs) (n : Nat) : TL f H (ts.drop n) (xs.drop n) := by
  refine ⟨by rw [List.length_drop, List.length_drop, h.1], fun i t e => ?_⟩
  rw [List.getElem?_drop] at e ⊢
  exact h.2 _ t e
theorem TL.append {α : Type} {f : α → List V} {H : Hp} {ts us : List Addr} {xs ys : List α} (h : TL f H ts xs) (h' : TL f H us ys) : TL f H (ts ++ us) (xs ++ ys) := by
  refine ⟨by rw [List.length_append, List.length_append, h.1, h'.1], fun i t e => ?_⟩
  by_cases hi : i < ts.length
  · rw [List.getElem?_append_left hi] at e
    obtain ⟨x, e1, e2⟩ := h.2 i t e
    exact ⟨x, by rw [List.getElem?_append_left (by rw [← h.1]; exact hi)]; exact e1, e2⟩
  · rw [List.getElem?_append_right (by omega)] at e
    obtain ⟨x, e1, e2⟩ := h'.2 _ t e
    exact ⟨x, by rw [List.getElem?_append_right (by rw [← h.1]; omega), ← h.1]; exact e1, e2⟩
/-! ### lists of ints that rise -/
theorem inc_ext : ∀ {l m : List Int}, l.Pairwise (· < ·) → m.Pairwise (· < ·) → (∀ x, x ∈ l ↔ x ∈ m) → l = m
  | [], [], _, _, _ => rfl
  | [], y :: m, _, _, h => absurd ((h y).mpr List.mem_cons_self) (by simp)
  | x :: l, [], _, _, h => absurd ((h x).mp List.mem_cons_self) (by simp)
  | .cons x l, .cons y m, hl, hm, h => by
    obtain ⟨l1, l2⟩ := List.pairwise_cons.mp hl
    obtain ⟨m1, m2⟩ := List.pairwise_cons.mp hm
    have e : x = y := by
      have a1 := (h x).mp List.mem_cons_self
      have a2 := (h y).mpr List.mem_cons_self
      obtain a1 | a1 := List.mem_cons.mp a1
      · exact a1
      · obtain a2 | a2 := List.mem_cons.mp a2
        · exact a2.symm
        · have := m1 x a1
          have := l1 y a2
          omega
    subst e
    rw [inc_ext l2 m2 fun z => ?_]
    constructor
    · intro hz
      rcases List.mem_cons.mp ((h z).mp (List.mem_cons_of_mem _ hz)) with e | q
      · have := l1 z hz
        omega
      · exact q
    · intro hz
      rcases List.mem_cons.mp ((h z).mpr (List.mem_cons_of_mem _ hz)) with e | q
      · have := m1 z hz
        omega
      · exact q
/-- the same in the order of pairs -/
def LexLe (a b : Int × Int) : Prop := a.1 < b.1 ∨ (a.1 = b.1 ∧ a.2 ≤ b.2)
theorem lex_uniq {l m : List (Int × Int)} (hl : l.Pairwise LexLe) (hm : m.Pairwise LexLe) (h : l.Perm m) : l = m := by
  refine List.Perm.eq_of_pairwise (le := LexLe) (fun a b _ _ h1 h2 => ?_) hl hm h
  unfold LexLe at h1 h2
  obtain ⟨a1, a2⟩ := a
  obtain ⟨b1, b2⟩ := b
  simp only at h1 h2
  rw [Prod.mk.injEq]
  omega
theorem VL.lex {size e : Int} {bs : List (Int × Int)} (h : VL size e bs) : bs.Pairwise LexLe := by
  have hm := h.mem
  refine (List.Pairwise.and_mem.mp h.pw).imp fun {a b} q => ?_
  have := hm a q.1
  unfold LexLe
  omega
end Pf

set_option maxHeartbeats 3000000
namespace Pf
open L2 PySem PySem.Spec PyProof.Rows
/-! own exceptions whose __init__ calls super().__init__ over ValueError's -/
/-- what is written of the class at C, its method's cell of the class at cc -/
structure OwnX (K : PySem.W.Frag) (C cc : Addr) : Prop where
  T : OexC K C
  cell : ∃ cl cld csl, K.lookup cc = some ⟨cl, cld, .cell (some (.ref C)), csl⟩
  sub : PySem.W.mroIn K C (.ref C) = some true
  sup : PySem.W.ks_superIn K C C "__init__" = some (some (.builtin "ValueError.__init__"))
  ve : PySem.W.subIn K (.ref C) (.type "ValueError") = some true
  no : PySem.W.nsIn K PySem.cStatics "thirdparty.any" = some none
section
variable {X : Cx} {pins : List (Addr × Obj)} {σ : L2.St} {H : Hp} {s : Shared} {a C : Addr}
/-- the bound __init__ of ValueError, called -/
theorem wrapper_ok {A : Around} {u : Addr} {us : List Value} {Q : Value → Shared → Prop} {E : Value → Shared → Prop} (T : OexC X.K C) (I : Inv X pins σ H s) (hu : s.heap.get? u = some (PySem.W.kxs_mw "ValueError.__init__" a)) (e : H a = some (exo a C none)) (hz : us.length ≤ sizeLine)
    (h : ∀ s', Inv X pins σ H s' → Q .none s') : wpAny (model X.prog X.w) A (call (.ref u) us) Q E s := by
  rcases T.cls with ⟨_, _, _, _, bm, _, _, _, _, _, _, _, _, _, _, hC, -⟩
  obtain ⟨t0, ho⟩ := exo_at I.hok e
  have hC' := I.kIn _ _ hC
  rcases s with ⟨hp, gs, dr, tk, os⟩
  refine wpAny_call ?_
  refine codeAny_of_tree ?_
  show wpAny _ A.in1 (callAny (.ref u) ⟨us, []⟩) _ _ _
  simp only [callAny]
  refine wpAny_bind ?_
  refine wpAny_load hu ?_
  simp only [PySem.W.kxs_mw, show (Value.type "method-wrapper" == Value.type "method" || Value.type "method-wrapper" == Value.type "builtin_function_or_method" || Value.type "method-wrapper" == Value.type "method-wrapper") = true by decide, if_true]
  refine PySem.W.KFB.if_so (hc := by decide) ?_
  refine wpAny_bind (PySem.W.check_bound_init F.excBase_ValueError.toExcCallFacts hC' ho rfl ?_)
  refine wpAny_bind (wpAny_pure (wpAny_pure (And.intro (plainId_quiet F.excBase_ValueError.init.plain _) (codeAny_builtin F.excBase_ValueError.initEntry ?_))))
  refine PySem.W.exc_init_tree (cls := .ref C) (t0 := t0) (dv := none) (c2 := .none) (c3 := .none) (b4 := .bool false) ho hz fun h' k hx _ => ?_
  have J := I.write (t' := tk) (x := a) (e := a) (o := exo a C none) (by rw [e]; exact True.intro) (.inl rfl) k ⟨_, hx⟩ (exo_ok hx)
  rw [show upd H a (exo a C none) = H from funext fun b => if hb : b = a then (by rw [hb, upd_same, e]) else upd_ne hb] at J
  exact h _ J
end
section
variable {CX : CXT} {P : Program} {w : World} {K : PySem.W.Frag} {mg : Str → Option Value} {base : Heap} {k : Nat} {f C cc cda : Addr} {name qual self : Str} {params : Arguments} {body rest : List Stmt} {scope : Scope} {dV kV doc pm ct oc ccl : Value} {an od cdd : Option Addr}
  {osl ccs : Array (Option Value)} {vs0 : Array Value} {N ps ps' : List Str} {sp : Sp} {p0 p1 ap pos epos : Pos} {e : Expr} {ar : Arg} {file : Str} {tf : Tok} {pl : Env → Sem Bool}
/-- the words of the method as a function with the captured cell -/
abbrev nfX (name qual : Str) (params : Arguments) (body : List Stmt) (scope : Scope) (cc cda : Addr) : NdefX.NF := ⟨name, qual, params, body, scope, [("__class__", cc)], cda⟩
theorem fn_sup (O : OwnX K C cc) (lk : K.lookup f = some ⟨oc, od, .func (PySem.W.ksFn name qual params body scope dV kV doc pm an (.ref cda) ct cc), osl⟩) (hcd : PySem.W.codeIn K (.ref cda) qual = true)
    (hrec : K.lookup cda = some ⟨ccl, cdd, .fields vs0, ccs⟩) (hvs : vs0[2]? = some (.str file tf)) (hfile : ((P.main.file : Str) == file) = true) (htop : (P.main.scope.names.lookup ("super" : Str)).isSome = false) (hmg : mg "super" = none)
    (hbd : body = .Expr (.Call (.Attribute (.Call (.Name "super" p0) [] [] p1) "__init__" ap) [e] [] pos) epos :: rest)
    (S : NdefX.NScope N ps ["__class__"] scope) (hps : ps = self :: ps') (hks : scope.names.lookup ("super" : Str) = some NameKind.globalImplicit) (hp : (params.posonlyargs ++ params.args).head? = some ar) (har : ar.arg = self)
    (hhe : ∀ env : Env, eval (.Call (.Attribute (.Call (.Name "super" p0) [] [] p1) "__init__" ap) [e] [] pos) env = (do
      let ov ← attributeBase (.Call (.Name "super" p0) [] [] p1) "__init__" env (eval (.Call (.Name "super" p0) [] [] p1) env)
      standAt ap.atName
      let (f, first) ← holding [ov] (getMethod ov "__init__" (pl env))
      callWith pos f first (backTo pos (starEach [e] env)) []))
    (hst : ∀ env : Env, starEach [e] env = [(false, eval e env)])
    (hsw : ∀ (env : Env) (l : Nat), swapsWith (.Call (.Attribute (.Call (.Name "super" p0) [] [] p1) "__init__" ap) [e] [] pos) none l env = pure false)
    (hin : ∀ (s : Shared) , interactive (PySem.W.ksEnv qual scope s.heap.objs.size f (.ref cda) cc) = false)
    (len : ∀ us h Q E, sp us h Q E → us.length = ps.length)
    (hbody : ∀ (A : Around) (outer : List Env) (s : Shared) (H : Hp) (vs : List V) (Q : VK) (E : XK), Room k (A.deeper (NdefX.envF (nfX name qual params body scope cc cda) f s.heap.objs.size)) → sp vs H Q E →
      ∃ (a : Addr) (ws : List V) (ta : TA) (t : TS), vs = .ref a :: ws ∧ H a = some (exo a C none) ∧ PA (NdefX.ncx CX P w K mg base N (nfX name qual params body scope cc cda) f A outer s H E) [e] ta ∧ PSs (NdefX.ncx CX P w K mg base N (nfX name qual params body scope cc cda) f A outer s H E) rest t ∧
        ta (NdefX.startF N vs [none]) H fun us H1 => H1 a = some (exo a C none) ∧ us.length ≤ 1000 ∧ t { nx := fun _ H' => Q .non H', rt := Q } (NdefX.startF N vs [none]) H1) :
    FnOk P w K mg base CX (k + 1) f (PySem.W.ksFn name qual params body scope dV kV doc pm an (.ref cda) ct cc) ps sp := by
  refine FnOk.mk len ?_
  intro A outer s H args us vs Q E hr e0 hb r hsp
  have hl := len _ _ _ _ hsp
  have stay : ∀ b o, base.get? b = some o → s.heap.get? b = some o := fun b o z => And.left (e0.bs b o z)
  have KX := e0.mod.kin.keeps stay
  have lim := e0.mod.nolimit.keeps stay
  obtain ⟨cl, cld, csl, hcell⟩ := O.cell
  have hH : H cc = none := (e0.bs _ _ (e0.mod.kin _ _ hcell)).2
  have C1 : NdefX.CellsAt (nfX name qual params body scope cc cda).cl ["__class__"] [none] s.heap H := by
    have key : ∀ y c, [(("__class__" : Str), cc)].lookup y = some c → y = "__class__" ∧ c = cc := fun y c q => by
      have m := PySem.mem_of_lookup q
      rcases List.mem_cons.mp m with z | z
      · cases z
        exact ⟨rfl, rfl⟩
      · cases z
    refine ⟨rfl, fun y c q => ?_, fun x y c h1 h2 => ?_, fun i y hi => ?_⟩
    · obtain ⟨_, rfl⟩ := key y c q
      exact ⟨hH, _, ⟨_, KX _ _ hcell, rfl⟩⟩
    · exact (key _ _ h1).1.trans (key _ _ h2).1.symm
    · match i, hi with
      | 0, hi =>
        cases hi
        refine ⟨cc, rfl, fun v hv => ?_⟩
        cases hv
  refine ks_codeAny_call_defAt (fd := PySem.W.ksFn name qual params body scope dV kV doc pm an (.ref cda) ct cc) (body := body) (binds := ps.zip us) hr.depth (KX _ _ lk) rfl lim (PySem.W.codeRec_of KX hcd) rfl hb S.nocell
    (fun y hy => S.par y.1 (List.of_mem_zip (show (y.1, y.2) ∈ ps.zip us from hy)).1) (fun h₁ hns kp => ?_) S.co S.gen S.kind
  obtain ⟨a, ws, ta, t, rfl, ha, hta, ht, hq⟩ := hbody A outer s H vs Q E (hr.deeper _) hsp
  have I : Inv (NdefX.ncx CX P w K mg base N (nfX name qual params body scope cc cda) f A outer s H E) [] (NdefX.startF N (.ref a :: ws) [none]) H { s with heap := h₁, toks := s.toks + (ps.zip us).length } :=
    NdefX.inv_startN S hr.hd e0 hl r C1 hns kp
  have fin : ∀ {σ' : L2.St} {H' : Hp} {s' : Shared} {v : V} {u : Value}, Inv (NdefX.ncx CX P w K mg base N (nfX name qual params body scope cc cda) f A outer s H E) [] σ' H' s' → L2.RelV v u → Q v H' → CE outer P w H s Q u s' :=
    fun {σ' H' s' v u} J rv q => ⟨v, H', J.os, J.bare, J.base, J.hok, rv, q⟩
  subst hbd
  subst hps
  cases r with
  | @cons _ u0 _ ur ra rr =>
  obtain rfl := (show u0 = Value.ref a from ra)
  have hself : scope.names.lookup self = some NameKind.local := S.par self List.mem_cons_self
  have henv : (NdefX.ncx CX P w K mg base N (nfX name qual params (.Expr (.Call (.Attribute (.Call (.Name "super" p0) [] [] p1) "__init__" ap) [e] [] pos) epos :: rest) scope cc cda) f A outer s H E).env = PySem.W.ksEnv qual scope s.heap.objs.size f (.ref cda) cc := rfl
  refine ks_wpAt_execs_cons (ks_wpAt_Expr_any (ks_wpAt_MethodCall (pl := pl (PySem.W.ksEnv qual scope s.heap.objs.size f (.ref cda) cc)) ?_ (hhe _)) (hin s) (hsw _ _))
  obtain ⟨cdD, hcls⟩ : ∃ cdD, PySem.W.clsIn K C = some cdD := by
    obtain ⟨nm, q, N, bs, bm, sn, sub, ab, col, dd, k0, k1, k2, k3, k5, hC, hbm⟩ := O.T.cls
    exact ⟨_, by unfold PySem.W.clsIn; rw [hC] <;> rfl⟩
  obtain ⟨oD, hD0, hD2⟩ : ∃ oD, K.lookup C = some oD ∧ oD.data = .cls cdD := by
    unfold PySem.W.clsIn at hcls
    split at hcls
    · rename_i c d cd' sl ho
      cases hcls
      exact ⟨_, ho, rfl⟩
    · cases hcls
  have KI := I.kIn
  have hD1 := KI _ _ hD0
  refine PySem.ks_wpAt_super_base (env := PySem.W.ksEnv qual scope s.heap.objs.size f (.ref cda) cc) (f := f) (cc := cda) hks (S.frk _ List.mem_cons_self) rfl rfl (KI _ _ lk) rfl hp rfl (KI _ _ hrec) rfl hvs hfile htop ?_
  rcases I.mod.blt with ⟨mb, h1, h2⟩
  refine PySem.W.ks_loadName_global S.kind hks (Calls.loadGlobal_builtin (env := PySem.W.ksEnv qual scope s.heap.objs.size f (.ref cda) cc) (I.mod.glob.keeps I.bk) hmg (h1.keeps I.bk) ((h2 "super" (by decide)).trans (by decide +kernel : bootBuiltins "super" = some (.type "super"))) ⟨rfl, ?_⟩)
  refine wpAny_loadName_free S.kind (S.frk _ List.mem_cons_self) rfl ⟨_, KI _ _ hcell, rfl⟩ ?_
  refine wpAny_loadName_local (v := .ref a) S.kind (by rw [har]; exact hself) hns ?_ ?_
  · have ndP : (self :: ps').Nodup := by
      have q := S.nd.sublist (List.take_sublist ((self :: ps').length + [("__class__" : Str)].length) N)
      rw [S.pre] at q
      exact And.left (List.nodup_append.mp q)
    rw [har]
    exact NdefX.zip_look (i := 0) ndP rfl rfl
  refine ks_wpAny_isType_cls hD1 hD2 (And.intro rfl ?_)
  obtain ⟨t0, hoa⟩ := exo_at I.hok ha
  refine ks_wpAny_call_super hD1 hD2 hoa rfl (fun c => by intro z; cases z) (PySem.W.looks_mroIn KI O.sub) (fun h' hso kk => ?_)
  have I2 := I.kept (t' := s.toks + ((self :: ps').zip (Value.ref a :: ur)).length) kk
  have KI2 := I2.kIn
  have hoa2 := kk _ _ hoa
  have hsup := O.sup
  unfold PySem.W.ks_superIn at hsup
  rw [hcls] at hsup
  have hty : PySem.W.InstAt h' a _ C none := ⟨hoa2, rfl, rfl, trivial⟩
  have hne : a ≠ C := PySem.W.ks_ne KI2 hty hcls
  refine PySem.W.kxs_getMethod PySem.W.kxs_ValueError hso (PySem.W.looks_opaque KI2 O.no) (l₀ := cdD.mro) (fun A Q E s k q => wpAny_bind ((PySem.W.looks_clsIn KI2 hcls) A _ E s k (wpAny_pure q))) rfl KI2 hsup (hty.type.andThen (PySem.W.looks_subIn KI2 O.ve)) hne (by decide) ?_
  have hmw : (h'.push (PySem.W.kxs_mw "ValueError.__init__" a)).get? h'.objs.size = some (PySem.W.kxs_mw "ValueError.__init__" a) := Heap.get?_push_size _ rfl
  have nH : H h'.objs.size = none := I2.hok.fresh (Nat.le_refl _)
  have I3 := I2.kept (h' := h'.push (PySem.W.kxs_mw "ValueError.__init__" a)) (t' := s.toks + ((self :: ps').zip (Value.ref a :: ur)).length + 1) (fun b u z => Heap.get?_push_of_some _ z)
  have I4 : Inv (NdefX.ncx CX P w K mg base N (nfX name qual params (.Expr (.Call (.Attribute (.Call (.Name "super" p0) [] [] p1) "__init__" ap) [e] [] pos) epos :: rest) scope cc cda) f A outer s H E) [(h'.objs.size, PySem.W.kxs_mw "ValueError.__init__" a)] (NdefX.startF N (.ref a :: ws) [none]) H
      { heap := h'.push (PySem.W.kxs_mw "ValueError.__init__" a), gens := s.gens, drawn := s.drawn, toks := s.toks + ((self :: ps').zip (Value.ref a :: ur)).length + 1, os := s.os } := I3.pins_of fun p hp => by
    rcases List.mem_cons.mp hp with z | z
    · subst z
      refine ⟨hmw, nH, ?_, fun z => ?_, fun v z => by cases z⟩
      · exact Nat.ne_of_gt (Nat.lt_of_lt_of_le I2.lt (Nat.le_refl _))
      · exact I2.nofs (Nat.le_refl _) z
    · cases z
  show wpAny _ _ (callWith pos (.ref h'.objs.size) [] (backTo pos (starEach [e] _)) []) _ _ _
  refine PySem.W.kxs_callWith (i := "ValueError.__init__") (x := a) (by rw [hst]; rfl) ?_
  rw [hst]
  refine PySem.Calls.evalArgs_plain ?_
  show wpAny _ _ (spliced (backTo pos [(false, eval e (PySem.W.ksEnv qual scope s.heap.objs.size f (.ref cda) cc))])) _ _ _
  rw [← hst (PySem.W.ksEnv qual scope s.heap.objs.size f (.ref cda) cc)]
  refine thn (hta.run pos _ _ _ H _ I4 hq) fun us2 s2 ⟨vs2, H2, I5, r2, ha2, hl2, hq2⟩ => ?_
  have hp2 := (I5.pin _ (List.mem_append_right _ List.mem_cons_self)).1
  refine ⟨hp2, ?_⟩
  show wpAny _ _ (call (.ref h'.objs.size) us2) _ _ _
  refine wrapper_ok O.T I5 hp2 ha2 (by rw [← Paired.length r2, sizeLine_eq]; omega) fun s3 I6 => ?_
  have I7 := I6.pins_of (pins' := []) (fun p hp => absurd (show p ∈ ([] : List (Addr × Obj)) from hp) (by simp))
  refine wpAt_of_wpAny (wpAny_mono (ht.run [] _ _ H2 _ I7 hq2) (fun fl s' hs => ?_) fun e s' hs => hs)
  cases fl with
  | ret u =>
    rcases hs with ⟨v, slots, h2, J, rv, q⟩
    exact fin J rv q
  | next =>
    obtain ⟨σ', H', J, q⟩ := hs
    exact fin (u := Value.none) (v := V.non) J rfl q
  | brk =>
    obtain ⟨_, _, _, q⟩ := hs
    exact False.elim q
  | cont =>
    obtain ⟨_, _, _, q⟩ := hs
    exact False.elim q
end

/-! ### enumerate over a text -/
/-- the turns of enumerate over the text x: each gives a new pair -/
def ItES (x : Str) : It where
  go := fun n _ => n < x.cps.size
  yld := fun n h v h' => ∃ p c, v = .ref p ∧ h p = none ∧ h' = upd h p (.tup [.int (n : Nat), .str ⟨#[c]⟩]) ∧ x.cps[n]? = some c
  stop := fun n _ => x.cps.size ≤ n
/-- the signs, drawn one by one -/
theorem drawsStr {prog : Program} {w : World} {A : Around} (free : A.handled = none) (q : Addr) (x : Str) (t : Tok) :
    Draws prog w A q [q] x.cps.size (fun n v => ∃ c u, x.cps[n]? = some c ∧ v = .str ⟨#[c]⟩ u) fun n h => h.IsStrIter q (strIterType x) x t n := by
  by_cases ascii : x.cps.all (· < 128) = true
  · rw [show strIterType x = "str_ascii_iterator" from if_pos ascii]
    exact Draws.strAscii free q x t
  · rw [show strIterType x = "str_iterator" from if_neg ascii]
    exact Draws.strWide free q x t
/-- behind the last sign -/
theorem drawsEnd {prog : Program} {w : World} {A : Around} (free : A.handled = none) (q : Addr) (x : Str) (t : Tok) (n : Nat) (none_ : x.cps[n]? = none) :
    Draws prog w A q [q] n (fun _ _ => True) fun m h => m = n ∧ h.IsStrIter q (strIterType x) x t m where
  live := by
    rintro m h ⟨-, o, at_, -⟩
    exact ⟨o, at_⟩
  frame := by
    rintro m h h' ⟨rfl, o, at_, rest⟩ same
    exact ⟨rfl, o, same q List.mem_cons_self o at_, rest⟩
  item := fun m s Q E lt st _ => absurd st.1 (Nat.ne_of_lt lt)
  done := by
    rintro s Q E ⟨-, st⟩ out
    by_cases ascii : x.cps.all (· < 128) = true
    · rw [show strIterType x = "str_ascii_iterator" from if_pos ascii] at st
      exact wpAny_nextOf_ascii_end free st none_ out
    · rw [show strIterType x = "str_iterator" from if_neg ascii] at st
      exact wpAny_nextOf_wide_end free st none_ out
/-- the enumerate object at e over the walk at q, ahead of its n-th turn -/
structure EnS (x : Str) (t : Tok) (e q : Addr) (n : Nat) (h : Heap) : Prop where
  en : ∃ last, IsEnum h e q ((n : Nat) : Int) last
  walk : h.IsStrIter q (strIterType x) x t n
  two : e ≠ q
section
variable {x : Str} {t : Tok} {e q : Addr} {n : Nat} {h h' : Heap}
theorem EnS.at_ (p : EnS x t e q n h) : ∀ b ∈ [e, q], ∃ o, h.get? b = some o ∧ ∀ v, o.data ≠ .cell v := by
  intro b mem
  rcases List.mem_cons.mp mem with rfl | mem2
  · obtain ⟨last, z⟩ := p.en
    exact ⟨_, z, fun v => by intro y; cases y⟩
  · obtain rfl := List.mem_singleton.mp mem2
    obtain ⟨o, z, -, dat⟩ := p.walk
    exact ⟨o, z, fun v y => by rw [dat] at y; cases y⟩
theorem EnS.stay (p : EnS x t e q n h) (same : ∀ b ∈ [e, q], ∀ o, h.get? b = some o → h'.get? b = some o) : EnS x t e q n h' := by
  obtain ⟨last, z⟩ := p.en
  obtain ⟨o, y, rest⟩ := p.walk
  exact ⟨⟨last, same e List.mem_cons_self _ z⟩, ⟨o, same q (List.mem_cons_of_mem _ List.mem_cons_self) _ y, rest⟩, p.two⟩
theorem EnS.lt (p : EnS x t e q n h) : ∀ b ∈ [e, q], b < h.objs.size := fun b mem => let ⟨_, z, _⟩ := p.at_ b mem; Heap.lt_size z
end
theorem turn_enumS {P : Program} {w : World} {K : PySem.W.Frag} {elts : List Expr} {kk : Nat} {tpos : Pos} (x : Str) (t : Tok) (e q : Addr) : Turn P w K (.Tuple elts kk tpos) (ItES x) [e, q] e (EnS x t e q) where
  mem := List.mem_cons_self
  obj := fun _ _ p => p.at_
  keep := fun _ _ _ p same => p.stay same
  self := fun A n s Q E p out => by
    obtain ⟨last, z⟩ := p.en
    exact wpAny_pyIter_enum z out
  item := by
    intro X eP ew eK calm n pins s σ H E inv own p lt
    subst eP ew eK
    obtain ⟨last, z⟩ := p.en
    have fresh : H s.heap.objs.size = none := inv.hok.fresh (Nat.le_refl _)
    have apart : ∀ b ∈ [e, q], b ≠ s.heap.objs.size := fun b mem => Nat.ne_of_lt (p.lt b mem)
    have memE : e ∈ [e, q] := List.mem_cons_self
    have memQ : q ∈ [e, q] := List.mem_cons_of_mem _ List.mem_cons_self
    refine wpAny_pyNext_enum_itemD (drawsStr (A := X.A.in1) (inv.ok.hd calm) q x t) z p.walk lt p.two (fun y => p.two (List.mem_singleton.mp y)) ?_
    rintro _ g tk ⟨c, u, sign, rfl⟩ given walked pair - rest
    refine ⟨_, rfl, wpAny_letOwnedTupleGo_enum (s := { s with heap := g, toks := tk + 1 }) given fun g2 again but => ?_⟩
    have pair2 := (but.2 _ (apart e memE).symm).trans pair
    have laid : ObjOk X.prog X.w (upd H s.heap.objs.size (.tup [.int (n : Nat), .str ⟨#[c]⟩])) g2 s.heap.objs.size (.tup [.int (n : Nat), .str ⟨#[c]⟩]) :=
      ⟨by show 2 ≤ sizeLine; rw [sizeLine_eq]; omega, _, Paired.cons ⟨tk, rfl⟩ (Paired.cons ⟨u, rfl⟩ Paired.nil), ⟨_, pair2, rfl, _, rfl⟩⟩
    have inv2 := Inv.turnedNew (t' := tk + 1) (h' := g2) inv (fun b o out at_ => by
      have be : b ≠ e := fun y => out (y ▸ memE)
      have bq : b ≠ q := fun y => out (y ▸ memQ)
      exact (but.2 b be).trans (rest b o be bq at_)) own (Nat.le_refl _) laid
    refine ⟨.ref s.heap.objs.size, _, inv2, rfl, ⟨_, c, rfl, fresh, rfl, sign⟩, ⟨⟨_, by simpa using again⟩, ?_, p.two⟩, fun b mem => ?_⟩
    · obtain ⟨o, at_, more⟩ := walked
      exact ⟨o, (but.2 q p.two.symm).trans at_, more⟩
    · exact (upd_ne (apart b mem)).trans (own b mem).1
  done := by
    intro X eP ew eK calm n pins s σ H E inv own p ge
    subst eP ew eK
    obtain ⟨last, z⟩ := p.en
    obtain ⟨a0, a1, a2, a3, a4, a5⟩ := own q (List.mem_cons_of_mem _ List.mem_cons_self)
    exact wpAny_pyNext_enum_endD (drawsEnd (A := X.A.in1) (inv.ok.hd calm) q x t n (Array.getElem?_eq_none ge)) z ⟨rfl, p.walk⟩ fun g but => And.intro rfl (inv.turned (t' := s.toks) (fun b o ne at_ => but b o ne at_) a0 a1 a3 a4 a5)
def iEnumS (ta : TA) : TI := fun σ H R => ta σ H fun vs h => ∃ x, vs = [.str x] ∧ R (ItES x) h
/-- for i, c in enumerate(text) -/
theorem pi_enumS {X : Cx} {e : Expr} {ta : TA} {p pos tpos : Pos} {elts : List Expr} {kk : Nat} (hg : Gl X "enumerate") (hm : X.mg "enumerate" = none) (arg : PA X [e] ta) (one : starEach [e] X.env = [(false, eval e X.env)] := by rfl) :
    PI X (.Tuple elts kk tpos) (.Call (.Name "enumerate" p) [e] [] pos) (iEnumS ta) where
  run := by
    intro pins s σ H R inv wish
    refine Call_ (ld_blt inv hg hm boot_enumerate (PyProof.Rows.callWith_type1 (thn (arg.run pos pins s σ H _ inv wish) ?_) one rfl))
    rintro us s1 ⟨_, h1, inv1, vals, x, rfl, ends⟩
    rcases vals with _ | ⟨⟨t, rfl⟩, nil_⟩
    cases nil_
    refine call_enumerate_str fun g made walk _ same => wpAny_pyIter_enum made ?_
    have big : ∀ b ∈ [s1.heap.objs.size + 1, s1.heap.objs.size], s1.heap.objs.size ≤ b := fun b mem => by
      rcases List.mem_cons.mp mem with rfl | mem2
      · omega
      · rw [List.mem_singleton.mp mem2]; exact Nat.le_refl _
    exact ⟨_, [s1.heap.objs.size + 1, s1.heap.objs.size], _, _, h1, rfl, inv1.kept (t' := s1.toks) same, turn_enumS x t _ _, ⟨⟨_, made⟩, walk, Nat.succ_ne_self _⟩, fun b mem => inv1.fpOk (big b mem) (inv1.hok.fresh (big b mem)), ends⟩
/-! ### texts as lists of signs -/
/-- the text of signs -/
abbrev S (signs : List Nat) : Str := ⟨signs.toArray⟩
theorem S_len (l : List Nat) : (S l).length = l.length := by
  show l.toArray.size = _
  simp
theorem S_append (l m : List Nat) : S l ++ S m = S (l ++ m) := by
  show (⟨l.toArray ++ m.toArray⟩ : Str) = ⟨(l ++ m).toArray⟩
  simp
theorem S_inj {l m : List Nat} : S l = S m ↔ l = m := ⟨fun h => by
  have := congrArg (fun z : Str => z.cps.toList) h
  simpa using this, fun h => by rw [h]⟩
theorem S_mul (c : Nat) (n : Int) : Txt.mul (S [c]) n = S (List.replicate n.toNat c) := by
  unfold Txt.mul
  by_cases h : n < 1
  · rw [if_pos h]
    have : n.toNat = 0 := by omega
    rw [this]; rfl
  · rw [if_neg h]
    by_cases h1 : n = 1
    · subst h1; rfl
    · have e : (n == 1 || (S [c]).length == 0) = false := by simp [h1, S_len]
      rw [if_neg (by rw [e]; decide)]
      have key : ∀ (k : Nat) (a : Array Nat), (List.replicate k (S [c]).cps).foldl (· ++ ·) a = a ++ (List.replicate k c).toArray := by
        intro k
        induction k with
        | zero => intro a; simp
        | succ k ih =>
          intro a
          rw [List.replicate_succ, List.foldl_cons, ih, List.replicate_succ]
          apply Array.ext'
          simp
      rw [key]
      simp
/-- one sign, many times -/
def rMulS : V → V → Hp → VK → Prop := fun x y H Q => ∃ (c : Nat) (n : Int), x = .str (S [c]) ∧ y = .int n ∧ -(2 ^ 31) ≤ n ∧ n ≤ 2 ^ 20 ∧ Q (.str (S (List.replicate n.toNat c))) H
theorem op_mulS {X : Cx} : OpR X (binaryOp .Mult) rMulS := by
  intro pins s σ H x y v u Q I rx ry wish
  obtain ⟨c, n, rfl, rfl, h0, h1, q⟩ := wish
  obtain ⟨t, rfl⟩ := rx
  obtain ⟨t', rfl⟩ := ry
  refine SB.mul ⟨by simp; omega, fun z _ => ?_, fun _ _ => ?_⟩ fun t2 k => ⟨.str (S (List.replicate n.toNat c)), H, I.tok _, ⟨_, by rw [S_mul]⟩, q⟩
  · rw [S_len]
    have hn : 1 ≤ n := by omega
    have : (1 : Int) ≤ (2 ^ 63 - 1) / n := by
      rw [Int.le_ediv_iff_mul_le (by omega)]
      omega
    exact Int.not_lt.mpr this
  · rw [S_len]
    show decide ([c].length * n.toNat > sizeLine) = false
    rw [sizeLine_eq]
    simp only [List.length_singleton, Nat.one_mul, decide_eq_false_iff_not]
    omega
/-! ### the caught exception -/
theorem is_exact {a C : Addr} {oe : Obj} (hc : oe.cls = .ref C) : Answers (fun s => s.heap.get? a = some oe) (.ref a) (.ref C) true := by
  intro dep tk prog w A R s ⟨p, hq⟩
  rcases s with ⟨h0, gs, dr, tt, os⟩
  unfold PySem.Builtin.«isinstance.nested»
  have L : PySem.W.Looks (model prog w) h0 (typeOf (.ref a)) (.ref C) := hc ▸ (PySem.W.Looks.ld p).andThen .now
  refine wpAny_bind (L.at ?_)
  rw [if_pos (by simp)]
  exact wpAny_bind (wpAny_rule (wpAny_pure (hq tt)))
/-- isinstance(e, C), e the caught exception, whose class is C -/
def rIsX (C a : Addr) (cls : Value) : List V → Hp → VK → Prop := fun xs H Q => xs = [.ref a, .ref C] ∧ cls = .ref C ∧ Q (.bl true) H
theorem call_isX {X : Cx} {a C : Addr} {oe : Obj} {cls : Value} {d : Option Addr} {pn : List (Addr × Obj)} (hz : Zc cls d oe) : CallR (X.suite a ((a, oe) :: pn)) (.builtin "isinstance") (rIsX C a cls) := by
  rintro pins s σ H xs us Q I r ⟨rfl, rfl, q⟩
  cases r with
  | cons rx rr =>
    cases rr with
    | cons rt rr =>
      cases rr
      cases rx
      cases rt
      have hget := And.left (I.pin (a, oe) (List.mem_append_left _ List.mem_cons_self))
      exact call_isinstance (S := fun _ R s => s.heap.get? a = some oe ∧ ∀ tk, R (.ok (.ret (.bool true))) { s with toks := tk })
        (fun prog w A R s hs => isinstance_outer (is_exact hz.1 0 _ prog w A R s hs) (by intro z; cases z)) ⟨hget, fun tk => ⟨.bl true, H, I.kept (t' := tk) fun _ _ z => z, rfl, q⟩⟩
/-! ### an own exception that may be made -/
structure XCal (P : Program) (w : World) (K : PySem.W.Frag) (mg : Str → Option Value) (base : Heap) (x : Str) (C : Addr) (k : Nat) (f : Addr) (fd : FuncData) (ps : List Str) (sp : Sp) : Prop where
  ok : FnOk P w K mg base CX0 k f fd ps sp
  T : OexC K C
  iC : PySem.W.findIn K (.ref C) "__init__" = some (some (.ref f))
  tI : PySem.W.typeIn K (.ref f) = some (.type "function")
  b : Binds K fd ps []
  m : mg x = some (.ref C)
/-- X(y), the field f holding y -/
def sp_exc1 (C : Addr) (f : Str) : Sp := fun vs H Q _ => ∃ (a : Addr) (i : Nat), vs = [.ref a, .int i] ∧ i ≤ 1000 ∧ H a = some (exo a C none) ∧ ∀ dx, H dx = none → dx ≠ a → Q .non (upd (upd H dx (exd dx [(f, .int i)])) a (exo a C (some dx)))
theorem exc1_out {C : Addr} {f : Str} {H : Hp} {W : XK} {i : Nat} (hi : i ≤ 1000) (h : ∀ (d : Addr) (H' : Hp), Same H H' → H d = none → H' d = some (.xd [(f, .int i)]) → W (.ref C) (some d) H') :
    ([V.int i].length ≤ 1000 ∧ ∀ a, H a = none → sp_exc1 C f (.ref a :: ([V.int i] ++ [])) (upd H a (exo a C none))
      (fun v H2 => v = .non ∧ ∃ (d : Addr) (fs : List (Str × V)), H2 a = some (exo a C (some d)) ∧ H2 d = some (exd d fs) ∧ H d = none ∧ W (.ref C) (some d) (upd (del H2 a) d (.xd fs))) (fun _ _ _ => False)) := by
  refine ⟨by simp, fun a na => ⟨a, i, rfl, hi, upd_same, fun dx nd nda => ⟨rfl, dx, [(f, .int i)], upd_same, by rw [upd_ne nda, upd_same], by rwa [upd_ne nda] at nd, ?_⟩⟩⟩
  rw [upd_ne nda] at nd
  refine h dx _ (fun b o e => ?_) nd upd_same
  have hb : b ≠ dx := ne_of_none e nd
  have ha : b ≠ a := ne_of_none e na
  rw [upd_ne hb, del_ne ha, upd_ne ha, upd_ne hb, upd_ne ha]
  exact e
/-! ### walks -/
section
variable {D : Ends} {σ : L2.St} {H : Hp} {g : TG} {tb : TS}
theorem for_enumL {K : PySem.W.Frag} {a : Addr} {xs : List V} {D : Ends} {σ : L2.St} {H : Hp} {g : TG} {tb : TS} (P : Nat → L2.St → Hp → Prop) (start : P 0 σ H) (hl : ∀ i s h, i ≤ xs.length → P i s h → SqL K h a xs)
    (hs : ∀ i x s h p, xs[i]? = some x → P i s h → h p = none → g (.ref p) s (upd h p (.tup [.int (i : Nat), x])) (tb { D with nx := P (i + 1), ct := P (i + 1), bk := D.nx })) (hd : ∀ s h, P xs.length s h → D.nx s h) :
    WkS (Ite K a) D.nx (fun y s h B => g y s h (tb { D with nx := B, ct := B, bk := D.nx })) σ H :=
  walkS P start (fun s h p => And.intro ⟨xs, hl _ s h (Nat.le_refl _) p, Nat.le_refl _⟩ (hd s h p)) fun i s h lt p => And.intro ⟨xs, xs[i], hl i s h (Nat.le_of_lt lt) p, List.getElem?_eq_getElem lt⟩ (by
    rintro _ _ ⟨b, x, rfl, free, rfl, at_⟩
    exact hs i x s h b (at_ xs (hl i s h (Nat.le_of_lt lt) p)) p free)
theorem for_enumS {x : Str} {D : Ends} {σ : L2.St} {H : Hp} {g : TG} {tb : TS} (P : Nat → L2.St → Hp → Prop) (start : P 0 σ H)
    (hs : ∀ i c s h p, x.cps[i]? = some c → P i s h → h p = none → g (.ref p) s (upd h p (.tup [.int (i : Nat), .str ⟨#[c]⟩])) (tb { D with nx := P (i + 1), ct := P (i + 1), bk := D.nx })) (hd : ∀ s h, P x.cps.size s h → D.nx s h) :
    WkS (ItES x) D.nx (fun y s h B => g y s h (tb { D with nx := B, ct := B, bk := D.nx })) σ H :=
  walkS P start (fun s h p => And.intro (Nat.le_refl _) (hd s h p)) fun i s h lt p => And.intro lt (by
    rintro _ _ ⟨b, c, rfl, free, rfl, at_⟩
    exact hs i c s h b at_ p free)
theorem r_iES {tA : TA} {R : It → Hp → Prop} (h : tA σ H fun vs H1 => ∃ x, vs = [.str x] ∧ R (ItES x) H1) : iEnumS tA σ H R := h
theorem r_iES1 {x : Str} {A : Str → Prop} (q : A x) : ∃ y, [V.str x] = [.str y] ∧ A y := ⟨x, rfl, q⟩
theorem r_iEL {K : PySem.W.Frag} {tA : TA} {R : It → Hp → Prop} (h : tA σ H fun vs H1 => ∃ a xs, vs = [.ref a] ∧ SqL K H1 a xs ∧ R (Ite K a) H1) : iEnum K tA σ H R := h
theorem r_iEL1 {K : PySem.W.Frag} {a : Addr} {xs : List V} {A : Addr → Prop} (h : SqL K H a xs) (q : A a) : ∃ b ys, [V.ref a] = [.ref b] ∧ SqL K H b ys ∧ A b := ⟨a, xs, rfl, h, q⟩
end
/-! ### readings of texts -/
section
variable {H : Hp} {Q : VK}
theorem r_addS {a b : Str} {A : Str → Str → Prop} (h : A a b) : ∃ i j, V.str a = .str i ∧ V.str b = .str j ∧ A i j := ⟨a, b, rfl, rfl, h⟩
theorem r_ixS {z : Str} {i : Int} {c : Nat} (ha : atI z.cps.toList i = some c) (hz : z.length ≤ sizeLine) (q : Q (.str ⟨#[c]⟩) H) : rIxS (.str z) (.int i) H Q := ⟨z, i, c, rfl, rfl, hz, ha, q⟩
theorem r_lenS {a : Str} {A : Str → Prop} (h : A a) : ∃ z, [V.str a] = [.str z] ∧ A z := ⟨a, rfl, h⟩
theorem r_eqS {a b : Str} (q : Q (.bl (decide (a = b))) H) : rEq (.str a) (.str b) H Q := ⟨rfl, by rw [show decide (V.str a = V.str b) = decide (a = b) by simp]; exact q⟩
theorem r_neS {a b : Str} (q : Q (.bl (!decide (a = b))) H) : rNe (.str a) (.str b) H Q := ⟨rfl, by rw [show decide (V.str a = V.str b) = decide (a = b) by simp]; exact q⟩
theorem r_slS {z : Str} {lo hi : Option Int} (hz : z.length ≤ sizeLine) (q : Q (.str (cutS z lo hi)) H) : rSlS (.str z) lo hi H Q := ⟨z, rfl, hz, q⟩
theorem r_mulS {c : Nat} {n : Int} (h0 : -(2 ^ 31) ≤ n) (h1 : n ≤ 2 ^ 20) (q : Q (.str (S (List.replicate n.toNat c))) H) : rMulS (.str (S [c])) (.int n) H Q := ⟨c, n, rfl, rfl, h0, h1, q⟩
end
theorem at_nat {α : Type} {xs : List α} {i : Nat} {x : α} (h : xs[i]? = some x) : atI xs (i : Int) = some x := by
  have hl : i < xs.length := by
    by_cases q : i < xs.length
    · exact q
    · rw [List.getElem?_eq_none (by omega)] at h; cases h
  unfold atI ixN
  rw [if_pos (show (0 : Int) ≤ i by omega), if_pos (by omega)]
  simpa using h
theorem cutS_take {t : List Nat} {i : Nat} (h : i ≤ t.length) : cutS (S t) none (some (i : Int)) = S (t.take i) := by
  unfold cutS
  rw [HT.sIx_nat, HT.sIx_none, S_len, Nat.min_eq_left h]
  simp
theorem cutS_drop {t : List Nat} {i : Nat} : cutS (S t) (some (i : Int)) none = S (t.drop i) := by
  unfold cutS
  rw [HT.sIx_nat, HT.sIx_none, S_len]
  by_cases h : i ≤ t.length
  · rw [Nat.min_eq_left h]
    rw [List.take_of_length_le (i := t.length - i) (by simp)]
  · rw [Nat.min_eq_right (by omega), List.drop_of_length_le (i := i) (by omega)]
    simp
theorem pe_gstr {X : Cx} {x y : Str} {pos : Pos} (hg : Gl X x) (hm : ∃ t, X.mg x = some (.str y t)) (hd : (x == ("__debug__" : Str)) = false := by decide) : PE X (.Name x pos) (tC (.str y)) :=
  let ⟨t, h⟩ := hm
  pe_glob hg h ⟨t, rfl⟩ hd
/-- a def that may raise -/
structure CalX (P : Program) (w : World) (K : PySem.W.Frag) (mg : Str → Option Value) (base : Heap) (x : Str) (k : Nat) (f : Addr) (fd : FuncData) (ps : List Str) (sp : Sp) : Prop where
  ok : FnOk P w K mg base (L2.CX P w) k f fd ps sp
  mg : mg x = some (.ref f)
  (kp : PySem.W.keepIn K (.ref f) = true)
  b : Binds K fd ps []
/-- the class at C, caught by the name of the class at B; its field f -/
structure ExF (K : PySem.W.Frag) (mg : Str → Option Value) (C B : Addr) (b f : Str) : Prop where
  m : mg b = some (.ref B)
  by_ : PySem.W.exmOne K (.ref C) (.ref B) = some true
  xf : XfC K C
  no : PySem.W.findIn K (.ref C) f = some none
section
variable {σ : L2.St} {H : Hp} {Q : Str → Hp → Prop} {ts : List TE} {n : Nat}
theorem str_len_app (a b : Str) : (a ++ b).length = a.length + b.length := by
  simp only [Str.length, HAppend.hAppend, Append.append]
  exact Array.size_append
theorem js_start (h : ∀ acc : Str, acc.length ≤ 0 → tJs ts acc σ H Q) : tJs ts Str.empty σ H Q := h Str.empty (Nat.le_refl _)
theorem js_nil (h : ∀ out, Q out H) : ∀ acc : Str, acc.length ≤ n → tJs [] acc σ H Q := fun acc _ => h acc
theorem js_str {y : Str} (hy : y.length ≤ 1000) (hn : n ≤ 10000) (h : ∀ acc : Str, acc.length ≤ n + 1000 → tJs ts acc σ H Q) : ∀ acc : Str, acc.length ≤ n → tJs (tC (.str y) :: ts) acc σ H Q := fun acc ha =>
  ⟨y, rfl, by rw [str_len_app, sizeLine_eq]; omega, h _ (by rw [str_len_app]; omega)⟩
theorem js_fmt {i k : Nat} (hv : σ[k]? = some (some (.int (i : Int)))) (hi : i ≤ 1000) (hn : n ≤ 10000) (h : ∀ acc : Str, acc.length ≤ n + 1010 → tJs ts acc σ H Q) : ∀ acc : Str, acc.length ≤ n → tJs (tFmt (tVar k) :: ts) acc σ H Q := fun acc ha => by
  have hl : ((Str.ofString (toString (i : Int))).length : Int) ≤ 1002 := by
    have := PyProof.Rows.len_str_of_int (i : Int)
    rw [Int.natAbs_natCast] at this
    omega
  refine ⟨.int i, hv, .inr ⟨i, rfl, ?_, ⟨_, rfl, ?_, h _ ?_⟩⟩⟩
  · rw [Int.natAbs_natCast]
    exact Nat.lt_of_le_of_lt (Nat.log2_le_self i) (by omega)
  · rw [str_len_app, sizeLine_eq]; omega
  · rw [str_len_app]; omega
end
theorem r_mk1 {C : Addr} {f : Str} {σ : L2.St} {H : Hp} {W : XK} {i k : Nat} (hv : σ[k]? = some (some (.int (i : Int)))) (hi : i ≤ 1000) (h : ∀ (d : Addr) (H' : Hp), Same H H' → H d = none → H' d = some (.xd [(f, .int (i : Int))]) → W (.ref C) (some d) H') :
    tMkO C (sp_exc1 C f) [] (tCons (tVar k) tNil) σ H W := ⟨.int i, hv, exc1_out hi h⟩
end Pf

namespace Pf
open PySem L2
/-! ### reading a text sign by sign -/
/-- one sign at the place p, behind the blocks L -/
def stepF (L : List (Int × Int)) (p c : Nat) : Option (List (Int × Int)) :=
  if c = 46 then some L else
  match L.getLast? with
  | some (s, l) => if s + l = p ∧ c = 96 + L.length then some (L.dropLast ++ [(s, l + 1)]) else if L.length < 26 ∧ c = 97 + L.length then some (L ++ [((p : Int), 1)]) else none
  | none => if c = 97 then some [((p : Int), 1)] else none
/-- the blocks behind the first p signs -/
def stF (t : List Nat) : Nat → Option (List (Int × Int))
  | 0 => some []
  | p + 1 => match stF t p with
    | none => none
    | some L => stepF L p (t.getD p 0)
theorem stF_succ {t : List Nat} {p : Nat} {L : List (Int × Int)} (h : stF t p = some L) : stF t (p + 1) = stepF L p (t.getD p 0) := by
  show (match stF t p with | none => none | some L => stepF L p (t.getD p 0)) = _
  rw [h]
theorem stF_none {t : List Nat} {p : Nat} (h : stF t p = none) : ∀ q, p ≤ q → stF t q = none := by
  intro q hq
  induction q with
  | zero =>
    have : p = 0 := by omega
    subst this
    exact h
  | succ q ih =>
    by_cases e : p = q + 1
    · rw [← e]; exact h
    · show (match stF t q with | none => none | some L => stepF L q (t.getD q 0)) = none
      rw [ih (by omega)]
/-- the first sign that does not fit -/
def FaultAt (t : List Nat) (p : Nat) : Prop := p < t.length ∧ (∃ L, stF t p = some L) ∧ stF t (p + 1) = none
theorem fault_uniq {t : List Nat} {p q : Nat} (h : FaultAt t p) (h' : FaultAt t q) : p = q := by
  obtain ⟨_, ⟨L, h1⟩, h2⟩ := h
  obtain ⟨_, ⟨M, h3⟩, h4⟩ := h'
  by_cases e : p < q
  · rw [stF_none h2 q e] at h3; cases h3
  · by_cases e' : q < p
    · rw [stF_none h4 p e'] at h1; cases h1
    · omega
theorem fault_not {t : List Nat} {p : Nat} (h : FaultAt t p) : stF t t.length = none := stF_none h.2.2 _ h.1
/-- the signs of blocks -/
def fx (acc : List Nat) (k : Nat) : List (Int × Int) → List Nat
  | [] => acc
  | (s, l) :: bs => fx (acc ++ List.replicate (s - acc.length).toNat 46 ++ List.replicate l.toNat (97 + k)) (k + 1) bs
theorem fx_snoc {s l : Int} : ∀ (bs : List (Int × Int)) (acc : List Nat) (k : Nat), fx acc k (bs ++ [(s, l)]) = fx acc k bs ++ List.replicate (s - (fx acc k bs).length).toNat 46 ++ List.replicate l.toNat (97 + (k + bs.length))
  | [], acc, k => rfl
  | (a, c) :: r, acc, k => by
    show fx _ (k + 1) (r ++ [(s, l)]) = _
    rw [fx_snoc r _ (k + 1)]
    show _ = fx _ (k + 1) r ++ List.replicate (s - (fx _ (k + 1) r).length).toNat 46 ++ List.replicate l.toNat (97 + (k + (r.length + 1)))
    rw [show k + 1 + r.length = k + (r.length + 1) by omega]
theorem fx_len {size : Int} : ∀ (bs : List (Int × Int)) (acc : List Nat) (k : Nat), VL size acc.length bs → ((fx acc k bs).length : Int) = endOf acc.length bs
  | [], acc, k, _ => rfl
  | (s, l) :: r, acc, k, h => by
    obtain ⟨h1, h2, h3⟩ := h
    have e : ((acc ++ List.replicate (s - acc.length).toNat 46 ++ List.replicate l.toNat (97 + k)).length : Int) = s + l := by
      simp only [List.length_append, List.length_replicate]
      omega
    show ((fx _ (k + 1) r).length : Int) = endOf (s + l) r
    rw [← e] at h3 ⊢
    exact fx_len r _ (k + 1) h3
/-- the whole text of blocks -/
def fxAll (n : Nat) (bs : List (Int × Int)) : List Nat := fx [] 0 bs ++ List.replicate (n - (fx [] 0 bs).length) 46
theorem take_succ {t : List Nat} {p : Nat} (h : p < t.length) : t.take (p + 1) = t.take p ++ [t.getD p 0] := by
  rw [List.take_add_one, List.getElem?_eq_getElem h]
  simp [List.getD_eq_getElem?_getD, h]
theorem rep_snoc (n c : Nat) : List.replicate (n + 1) c = List.replicate n c ++ [c] := List.replicate_succ'
/-- what holds behind the first p signs -/
structure Good (t : List Nat) (p : Nat) (L : List (Int × Int)) : Prop where
  vl : VL p 0 L
  few : L.length ≤ 26
  tx : t.take p = fxAll p L
  again : ∀ (M : List (Int × Int)) (s l : Int), L = M ++ [(s, l)] → (s + l = p ↔ 0 < p ∧ t.getD (p - 1) 0 = 97 + M.length)
theorem VL.mono {a b : Int} : ∀ {bs : List (Int × Int)} {e : Int}, VL a e bs → a ≤ b → VL b e bs
  | [], e, h, hb => Int.le_trans h hb
  | (s, l) :: r, e, h, hb => ⟨h.1, h.2.1, VL.mono h.2.2 hb⟩
theorem VL.unsnoc {size s l : Int} : ∀ {bs : List (Int × Int)} {e : Int}, VL size e (bs ++ [(s, l)]) → VL size e bs ∧ endOf e bs ≤ s ∧ 1 ≤ l ∧ s + l ≤ size
  | [], e, h => ⟨by have := h.1; have := h.2.1; have : s + l ≤ size := h.2.2; show e ≤ size; omega, h.1, h.2.1, h.2.2⟩
  | (a, c) :: r, e, h => let ⟨h1, h2, h3, h4⟩ := VL.unsnoc h.2.2; ⟨⟨h.1, h.2.1, h1⟩, h2, h3, h4⟩
theorem fxAll_len {n : Nat} {bs : List (Int × Int)} (h : VL n 0 bs) : (fx [] 0 bs).length ≤ n ∧ ((fx [] 0 bs).length : Int) = endOf 0 bs := by
  have e := fx_len (size := n) bs [] 0 h
  have := h.end_le
  have e' : ((fx [] 0 bs).length : Int) = endOf 0 bs := e
  exact ⟨by omega, e'⟩
theorem fxAll_dot {n : Nat} {bs : List (Int × Int)} (h : VL n 0 bs) : fxAll (n + 1) bs = fxAll n bs ++ [46] := by
  have := (fxAll_len h).1
  unfold fxAll
  rw [show n + 1 - (fx [] 0 bs).length = (n - (fx [] 0 bs).length) + 1 by omega, rep_snoc, List.append_assoc]
theorem fxAll_begin {p : Nat} {bs : List (Int × Int)} (h : VL p 0 bs) : fxAll (p + 1) (bs ++ [((p : Int), 1)]) = fxAll p bs ++ [97 + bs.length] := by
  have h1 := (fxAll_len h).1
  have e : fx [] 0 (bs ++ [((p : Int), 1)]) = fxAll p bs ++ [97 + bs.length] := by
    rw [fx_snoc]
    unfold fxAll
    rw [show ((p : Int) - (fx [] 0 bs).length).toNat = p - (fx [] 0 bs).length by omega]
    simp
  have l : (fxAll p bs ++ [97 + bs.length]).length = p + 1 := by
    unfold fxAll
    simp only [List.length_append, List.length_replicate, List.length_singleton]
    omega
  unfold fxAll at e l ⊢
  rw [e, l]
  simp
theorem fxAll_ext {p : Nat} {M : List (Int × Int)} {s l : Int} (h : VL p 0 (M ++ [(s, l)])) (hp : s + l = p) : fxAll (p + 1) (M ++ [(s, l + 1)]) = fxAll p (M ++ [(s, l)]) ++ [97 + M.length] := by
  obtain ⟨v, h1, h2, h3⟩ := h.unsnoc
  have hl := fxAll_len v
  have e : fx [] 0 (M ++ [(s, l + 1)]) = fx [] 0 (M ++ [(s, l)]) ++ [97 + M.length] := by
    rw [fx_snoc, fx_snoc, show (l + 1).toNat = l.toNat + 1 by omega, rep_snoc]
    simp
  have l1 : (fx [] 0 (M ++ [(s, l)])).length = p := by
    have := (fxAll_len h).2
    rw [endOf_snoc] at this
    omega
  unfold fxAll
  rw [e, List.length_append, l1]
  simp
theorem snoc_inj {M N : List (Int × Int)} {x y : Int × Int} (h : M ++ [x] = N ++ [y]) : M = N ∧ x = y := by
  have := List.append_inj' h rfl
  exact ⟨this.1, by simpa using this.2⟩
theorem good_dot {t : List Nat} {p : Nat} {L : List (Int × Int)} (g : Good t p L) (hp : p < t.length) (hc : t.getD p 0 = 46) : Good t (p + 1) L := by
  refine ⟨g.vl.mono (by omega), g.few, ?_, fun M s l e => ?_⟩
  · rw [take_succ hp, g.tx, hc, fxAll_dot g.vl]
  · subst e
    obtain ⟨v, h1, h2, h3⟩ := g.vl.unsnoc
    constructor
    · intro z; omega
    · rintro ⟨_, z⟩
      rw [Nat.add_sub_cancel, hc] at z
      omega
theorem good_ext {t : List Nat} {p : Nat} {M : List (Int × Int)} {s l : Int} (g : Good t p (M ++ [(s, l)])) (hp : p < t.length) (hs : s + l = p) (hc : t.getD p 0 = 97 + M.length) : Good t (p + 1) (M ++ [(s, l + 1)]) := by
  obtain ⟨v, h1, h2, h3⟩ := g.vl.unsnoc
  refine ⟨VL.snoc (v.mono (by omega)) h1 (by omega) (by omega), by simpa using g.few, ?_, fun N s' l' e => ?_⟩
  · rw [take_succ hp, g.tx, hc, fxAll_ext g.vl hs]
  · obtain ⟨rfl, e2⟩ := snoc_inj e
    cases e2
    exact ⟨fun _ => ⟨by omega, by rw [Nat.add_sub_cancel, hc]⟩, fun _ => by omega⟩
theorem good_begin {t : List Nat} {p : Nat} {L : List (Int × Int)} (g : Good t p L) (hp : p < t.length) (hl : L.length < 26) (hc : t.getD p 0 = 97 + L.length) : Good t (p + 1) (L ++ [((p : Int), 1)]) := by
  have he := (fxAll_len g.vl)
  refine ⟨VL.snoc (g.vl.mono (by omega)) (by omega) (by omega) (by omega), by simp; omega, ?_, fun N s' l' e => ?_⟩
  · rw [take_succ hp, g.tx, hc, fxAll_begin g.vl]
  · obtain ⟨rfl, e2⟩ := snoc_inj e
    cases e2
    exact ⟨fun _ => ⟨by omega, by rw [Nat.add_sub_cancel, hc]⟩, fun _ => by omega⟩
/-- the three ways on, as stepF has them -/
theorem stepF_dot {L : List (Int × Int)} {p : Nat} : stepF L p 46 = some L := rfl
theorem stepF_last {M : List (Int × Int)} {s l : Int} {p c : Nat} (h : c ≠ 46) : stepF (M ++ [(s, l)]) p c = if s + l = p ∧ c = 97 + M.length then some (M ++ [(s, l + 1)]) else if M.length + 1 < 26 ∧ c = 97 + (M.length + 1) then some (M ++ [(s, l)] ++ [((p : Int), 1)]) else none := by
  unfold stepF
  rw [if_neg h]
  simp only [List.getLast?_concat, List.dropLast_concat, List.length_append, List.length_singleton]
  rw [show 96 + (M.length + 1) = 97 + M.length by omega]
theorem stepF_nil {p c : Nat} (h : c ≠ 46) : stepF [] p c = if c = 97 then some [((p : Int), 1)] else none := by
  unfold stepF
  rw [if_neg h]
  rfl
theorem good_step {t : List Nat} {p : Nat} {L L' : List (Int × Int)} (g : Good t p L) (hp : p < t.length) (h : stepF L p (t.getD p 0) = some L') : Good t (p + 1) L' := by
  by_cases hc : t.getD p 0 = 46
  · rw [hc] at h
    cases h
    exact good_dot g hp hc
  by_cases he : L = []
  · subst he
    rw [stepF_nil hc] at h
    split at h
    · cases h
      exact good_begin g hp (by simp) (by simpa)
    · cases h
  · obtain ⟨M, ⟨s, l⟩, rfl⟩ := snoc_of he
    rw [stepF_last hc] at h
    split at h
    · rename_i q
      cases h
      exact good_ext g hp q.1 q.2
    · split at h
      · rename_i q
        cases h
        exact good_begin g hp (by simpa using q.1) (by simpa using q.2)
      · cases h
theorem good_zero {t : List Nat} : Good t 0 [] := ⟨Int.le_refl _, by simp, by simp [fxAll, fx], fun M s l e => by simp at e⟩
theorem good_st {t : List Nat} : ∀ {p : Nat} {L : List (Int × Int)}, p ≤ t.length → stF t p = some L → Good t p L
  | 0, L, _, h => by
    cases h
    exact good_zero
  | p + 1, L, hp, h => by
    cases e : stF t p with
    | none => rw [stF_none e (p + 1) (by omega)] at h; cases h
    | some M =>
      rw [stF_succ e] at h
      exact good_step (good_st (by omega) e) hp h
/-- a text that is read is its blocks' text -/
theorem read_text {t : List Nat} {L : List (Int × Int)} (h : stF t t.length = some L) : VL t.length 0 L ∧ L.length ≤ 26 ∧ fxAll t.length L = t := by
  have g := good_st (Nat.le_refl _) h
  exact ⟨g.vl, g.few, by rw [← g.tx, List.take_length]⟩
/-! ### the text of cells -/
/-- the sign of a cell's value -/
def letter (x : Int) : Nat := if x = 0 then 46 else 96 + x.toNat
theorem st_dots {t : List Nat} {e : Nat} {L : List (Int × Int)} (h : stF t e = some L) : ∀ m, (∀ i, e ≤ i → i < e + m → t.getD i 0 = 46) → stF t (e + m) = some L
  | 0, _ => h
  | m + 1, hd => by
    have := st_dots h m fun i h1 h2 => hd i h1 (by omega)
    show stF t (e + m + 1) = _
    rw [stF_succ this, hd (e + m) (by omega) (by omega)]
    rfl
theorem st_block {t : List Nat} {s : Nat} {L : List (Int × Int)} (h : stF t s = some L) (hl : L.length < 26) : ∀ m, (∀ i, s ≤ i → i < s + (m + 1) → t.getD i 0 = 97 + L.length) → stF t (s + (m + 1)) = some (L ++ [((s : Int), ((m + 1 : Nat) : Int))])
  | 0, hd => by
    show stF t (s + 1) = _
    rw [stF_succ h, hd s (by omega) (by omega)]
    by_cases he : L = []
    · subst he
      rw [stepF_nil (by simp)]
      simp
    · obtain ⟨M, ⟨a, c⟩, rfl⟩ := snoc_of he
      rw [stepF_last (by omega)]
      simp only [List.length_append, List.length_singleton] at hl ⊢
      rw [if_neg (fun z => by omega), if_pos ⟨by omega, trivial⟩]
      rfl
  | m + 1, hd => by
    have := st_block h hl m fun i h1 h2 => hd i h1 (by omega)
    show stF t (s + (m + 1) + 1) = _
    rw [stF_succ this, hd (s + (m + 1)) (by omega) (by omega), stepF_last (by omega), if_pos ⟨by omega, rfl⟩]
    have : (((m + 1 : Nat) : Int) + 1) = ((m + 1 + 1 : Nat) : Int) := by omega
    rw [this]
theorem st_cells {t : List Nat} {n : Nat} : ∀ (bs : List (Int × Int)) (e : Nat) (L : List (Int × Int)), VL n e bs → stF t e = some L → L.length + bs.length ≤ 26 → (∀ i : Nat, e ≤ i → i < n → t.getD i 0 = letter (cellOf i L.length bs)) → stF t n = some (L ++ bs)
  | [], e, L, v, h, hl, hd => by
    have hn : (e : Int) ≤ n := v
    have := st_dots h (n - e) fun i h1 h2 => by
      rw [hd i h1 (by omega)]
      rfl
    rw [show e + (n - e) = n by omega] at this
    rw [List.append_nil]
    exact this
  | (s, l) :: r, e, L, v, h, hl, hd => by
    obtain ⟨v1, v2, v3⟩ := v
    have v4 := v3.le_size
    obtain ⟨a, rfl⟩ : ∃ a : Nat, s = a := ⟨s.toNat, by omega⟩
    obtain ⟨m, rfl⟩ : ∃ m : Nat, l = ((m + 1 : Nat) : Int) := ⟨l.toNat - 1, by omega⟩
    simp only [List.length_cons] at hl
    have h1 := st_dots h (a - e) fun i h1 h2 => by
      rw [hd i h1 (by omega)]
      have : cellOf i L.length (((a : Int), ((m + 1 : Nat) : Int)) :: r) = 0 := by
        rw [cellOf_zero (by omega)]
        rintro ⟨x, hx, z1, z2⟩
        obtain rfl | hx := List.mem_cons.mp hx
        · dsimp only at z1
          omega
        · have := VL.mem v3 x hx
          omega
      rw [this]
      rfl
    rw [show e + (a - e) = a by omega] at h1
    have h2 := st_block h1 (by omega) m fun i h1 h2 => by
      rw [hd i (by omega) (by omega)]
      have e : cellOf i L.length (((a : Int), ((m + 1 : Nat) : Int)) :: r) = L.length + 1 := by
        unfold cellOf
        rw [if_pos ⟨by omega, by omega⟩]
      rw [e]
      unfold letter
      rw [if_neg (by omega)]
      omega
    have h3 := st_cells (t := t) (n := n) r (a + (m + 1)) (L ++ [((a : Int), ((m + 1 : Nat) : Int))]) (by
      rw [show ((a + (m + 1) : Nat) : Int) = (a : Int) + ((m + 1 : Nat) : Int) by omega]
      exact v3) h2 (by simp; omega) fun i h1 h2 => by
      rw [hd i (by omega) h2]
      unfold cellOf
      rw [if_neg (by omega)]
      rw [List.length_append, List.length_singleton]
      rw [show ((L.length + 1 : Nat) : Int) = (L.length : Int) + 1 by omega]
      cases r <;> rfl
    rw [h3]
    simp
/-- the text of the cells is read as their blocks -/
theorem cells_read {n : Nat} {bs : List (Int × Int)} {cs : List Int} (v : VL n 0 bs) (hb : bs.length ≤ 26) (hc : CellsOf n bs cs) : (cs.map letter).length = n ∧ stF (cs.map letter) n = some bs := by
  obtain ⟨h1, h2⟩ := hc
  refine ⟨by rw [List.length_map]; omega, ?_⟩
  have := st_cells (t := cs.map letter) (n := n) bs 0 [] v rfl (by simpa using hb) fun i _ hi => by
    rw [List.getD_eq_getElem?_getD, List.getElem?_map, h2 i (by omega)]
    rfl
  simpa using this
/-! ### as the program asks it -/
def contB (L : List (Int × Int)) (p c : Nat) : Bool := match L.getLast? with
  | some (s, l) => decide (s + l = p) && decide (c = 96 + L.length)
  | none => false
def beginB (L : List (Int × Int)) (c : Nat) : Bool := decide (L.length < 26) && decide (c = 97 + L.length)
theorem contB_snoc {M : List (Int × Int)} {s l : Int} {p c : Nat} : contB (M ++ [(s, l)]) p c = (decide (s + l = p) && decide (c = 97 + M.length)) := by
  unfold contB
  simp only [List.getLast?_concat, List.length_append, List.length_singleton]
  rw [show 96 + (M.length + 1) = 97 + M.length by omega]
theorem stepF_cont {L : List (Int × Int)} {p c : Nat} (h : c ≠ 46) (hc : contB L p c = true) : ∃ (M : List (Int × Int)) (s l : Int), L = M ++ [(s, l)] ∧ s + l = p ∧ c = 97 + M.length ∧ stepF L p c = some (M ++ [(s, l + 1)]) := by
  by_cases he : L = []
  · subst he; cases hc
  · obtain ⟨M, ⟨s, l⟩, rfl⟩ := snoc_of he
    rw [contB_snoc, Bool.and_eq_true, decide_eq_true_eq, decide_eq_true_eq] at hc
    exact ⟨M, s, l, rfl, hc.1, hc.2, by rw [stepF_last h, if_pos hc]⟩
theorem stepF_else {L : List (Int × Int)} {p c : Nat} (h : c ≠ 46) (hc : contB L p c = false) : stepF L p c = if beginB L c = true then some (L ++ [((p : Int), 1)]) else none := by
  by_cases he : L = []
  · subst he
    rw [stepF_nil h]
    unfold beginB
    simp
  · obtain ⟨M, ⟨s, l⟩, rfl⟩ := snoc_of he
    rw [contB_snoc] at hc
    rw [stepF_last h, if_neg (fun z => by simp [z.1, z.2] at hc)]
    unfold beginB
    simp only [List.length_append, List.length_singleton, Bool.and_eq_true, decide_eq_true_eq]
theorem cellOf_le {i : Int} : ∀ {bs : List (Int × Int)} {k : Int}, 0 ≤ k → 0 ≤ cellOf i k bs ∧ cellOf i k bs ≤ k + bs.length
  | [], k, h => by
    unfold cellOf
    simp; exact h
  | (s, l) :: r, k, h => by
    unfold cellOf
    simp only [List.length_cons]
    split
    · omega
    · have := cellOf_le (i := i) (bs := r) (k := k + 1) (by omega)
      cases r <;> omega
theorem again_iff {t : List Nat} {p : Nat} {L : List (Int × Int)} (g : Good t p L) (c : Nat) (hc : t.getD p 0 = c) : contB L p c = (decide (0 < p) && decide (0 < L.length) && decide (t.getD (p - 1) 0 = c) && decide (c = 96 + L.length)) := by
  by_cases he : L = []
  · subst he
    simp [contB]
  · obtain ⟨M, ⟨s, l⟩, rfl⟩ := snoc_of he
    rw [contB_snoc, Bool.eq_iff_iff]
    simp only [Bool.and_eq_true, decide_eq_true_eq, g.again M s l rfl, List.length_append, List.length_singleton]
    constructor
    · rintro ⟨⟨h1, h2⟩, h3⟩
      exact ⟨⟨⟨h1, by omega⟩, by omega⟩, by omega⟩
    · rintro ⟨⟨⟨h1, h2⟩, h3⟩, h4⟩
      exact ⟨⟨h1, by omega⟩, by omega⟩
/-! ### the written texts -/
theorem dot_txt : (Str.ofString "." : Str) = S [46] := by decide +kernel
theorem abc_txt : (Str.ofString "abcdefghijklmnopqrstuvwxyz" : Str).cps.toList = (List.range 26).map (97 + ·) := by decide +kernel
theorem dabc_txt : (Str.ofString ".abcdefghijkl" : Str).cps.toList = 46 :: (List.range 12).map (97 + ·) := by decide +kernel
theorem abc_len : (Str.ofString "abcdefghijklmnopqrstuvwxyz" : Str).length = 26 := by decide +kernel
theorem dabc_len : (Str.ofString ".abcdefghijkl" : Str).length = 13 := by decide +kernel
theorem abc_at {k : Nat} (h : k < 26) : atI (Str.ofString "abcdefghijklmnopqrstuvwxyz" : Str).cps.toList (k : Int) = some (97 + k) := at_nat (by
  rw [abc_txt, List.getElem?_map, List.getElem?_range h]; rfl)
theorem dabc_at {x : Int} (h0 : 0 ≤ x) (h1 : x ≤ 12) : atI (Str.ofString ".abcdefghijkl" : Str).cps.toList x = some (letter x) := by
  obtain ⟨n, rfl⟩ : ∃ n : Nat, x = n := ⟨x.toNat, by omega⟩
  refine at_nat ?_
  rw [dabc_txt]
  unfold letter
  match n, h1 with
  | 0, _ => rfl
  | n + 1, h1 =>
    rw [if_neg (by omega), List.getElem?_cons_succ, List.getElem?_map, List.getElem?_range (by omega)]
    simp
    omega
theorem VL.take {size : Int} : ∀ {bs : List (Int × Int)} {e : Int}, VL size e bs → ∀ i, VL size e (bs.take i)
  | [], e, h, i => by rw [List.take_nil]; exact h
  | (s, l) :: r, e, h, 0 => by
    have := h.2.2.le_size
    have h1 := h.1
    have h2 := h.2.1
    show e ≤ size
    omega
  | (s, l) :: r, e, h, i + 1 => ⟨h.1, h.2.1, VL.take h.2.2 i⟩
theorem dS (a b : Nat) : decide (S [a] = S [b]) = decide (a = b) := decide_eq_decide.mpr (by rw [S_inj]; simp)
theorem sgn_at {r : Int} (h0 : 0 ≤ r) (h1 : r < 7) : ∃ c, atI (Str.ofString ".abcdz#" : Str).cps.toList r = some c := by
  obtain ⟨n, rfl⟩ : ∃ n : Nat, r = n := ⟨r.toNat, by omega⟩
  have hl : (Str.ofString ".abcdz#" : Str).cps.toList.length = 7 := by decide +kernel
  exact ⟨_, at_nat (List.getElem?_eq_getElem (by omega))⟩
theorem sgn_len : (Str.ofString ".abcdz#" : Str).length = 7 := by decide +kernel
theorem nil_txt : (Str.ofString "" : Str) = S [] := by decide +kernel
theorem fault_ex {t : List Nat} : ∀ {p : Nat}, p ≤ t.length → stF t p = none → ∃ q, FaultAt t q
  | 0, _, h => by cases h
  | p + 1, hp, h => by
    cases e : stF t p with
    | none => exact fault_ex (by omega) e
    | some L => exact ⟨p, by omega, ⟨L, e⟩, h⟩
end Pf

namespace Pf
open PySem L2
local macro_rules | `(tactic| walk_at "rd1") => `(tactic| first
  | with_reducible refine r_seqA ?_
  | with_reducible refine r_seqD ?_
  | with_reducible refine r_seqF ?_
  | with_reducible refine r_seqN ?_
  | with_reducible refine r_asg ?_
  | with_reducible refine r_drop ?_
  | with_reducible refine r_ret ?_
  | with_reducible refine r_ifS ?_
  | ((with_reducible refine r_next ?_); try dsimp only)
  | ((with_reducible refine r_name ?_); try dsimp only [List.set_cons_succ, List.set_cons_zero, wipe])
  | ((with_reducible refine' r_var ?rdh ?_); (case rdh => rfl))
  | with_reducible refine r_c ?_
  | with_reducible refine r_op ?_
  | with_reducible refine r_un ?_
  | with_reducible refine r_I0 ?_
  | ((with_reducible refine r_I ?_ ?_); (· first | decide | exact Or.inl (by decide) | exact Or.inr (by decide) | (show _ ∧ _; constructor <;> decide) | (show (0:Int) < _; omega) | (show CDiv _ _; unfold CDiv; omega) ))
  | with_reducible refine r_U ?_
  | with_reducible refine r_eqI ?_
  | with_reducible refine r_neI ?_
  | with_reducible refine r_eqB ?_
  | with_reducible refine r_neB ?_
  | with_reducible refine r_test ?_
  | with_reducible refine r_B ?_
  | with_reducible refine r_bl ?_
  | with_reducible refine r_bl2 ?_
  | with_reducible refine r_yes ?_
  | with_reducible refine r_wipe (by rfl) ?_
  | with_reducible refine r_rfl ?_
  | ((with_reducible refine' r_eqA ?rdh ?_); (case rdh => rfl))
  | with_reducible refine r_and ?_
  | with_reducible refine r_or ?_
  | with_reducible refine r_not ?_
  | with_reducible refine r_andV ?_
  | with_reducible refine r_orV ?_
  | with_reducible refine r_notV ?_
  | with_reducible refine r_ifE ?_
  | with_reducible refine r_nil ?_
  | with_reducible refine r_cons ?_
  | with_reducible refine r_tup ?_
  | with_reducible refine r_lst ?_
  | with_reducible refine r_CB ?_
  | with_reducible refine r_call ?_
  | with_reducible refine r_bm ?_
  | with_reducible refine r_bm0 ?_
  | with_reducible refine r_int ?_
  | with_reducible refine r_i2 ?_
  | with_reducible refine r_i1 ?_
  | with_reducible refine r_gcons ?_
  | with_reducible refine r_gnil ?_
  | with_reducible refine r_gsub ?_
  | with_reducible refine iteT ?_
  | with_reducible refine iteF ?_
  | with_reducible refine ite_notT ?_
  | with_reducible refine ite_notF ?_
  | with_reducible refine r_isi_ib ?_
  | with_reducible refine r_isi_ii ?_
  | with_reducible refine r_isi_bb ?_
  | with_reducible refine r_isi_nb ?_
  | with_reducible refine r_isi_nt ?_
  | ((with_reducible refine' r_isi_ll ?rdh ?_); (case rdh => first | assumption | exact upd_same))
  | ((with_reducible refine' r_isi_tt ?rdh ?_); (case rdh => first | assumption | exact upd_same))
  | with_reducible refine r_sl ?_
  | with_reducible refine r_noPart ?_
  | with_reducible refine r_part ?_
  | with_reducible refine r_int1 ?_
  | with_reducible refine r_tru ?_
  | with_reducible refine r_ckw ?_
  | with_reducible refine r_lc ?_
  | with_reducible refine r_lc2 ?_
  | with_reducible refine r_forS ?_
  | with_reducible refine r_iR1 ?_
  | with_reducible refine r_iR2 ?_
  | with_reducible refine r_iL ?_
  | ((with_reducible refine' r_lenL ?rdh ?_); (case rdh => walk_at "sq"))
  | ((with_reducible refine' r_ixL ?rdh ?rda ?_); (case rdh => walk_at "sq"); (case rda => walk_at "at"))
  | ((with_reducible refine' r_ixT ?rdh ?rda ?_); (case rdh => walk_at "sq"); (case rda => walk_at "at")))
local macro_rules | `(tactic| walk_at "sq") => `(tactic| first
  | assumption
  | exact SqL.of (by assumption)
  | exact SqL.of upd_same
  | exact SqT.of (by assumption)
  | exact SqT.of upd_same)
local macro_rules | `(tactic| walk_at "sml") => `(tactic| (rw [sizeLine_eq]; simp))
local macro_rules | `(tactic| walk_at "at") => `(tactic| first | assumption | rfl)
local macro_rules | `(tactic| walk_at "rd") => `(tactic| repeat walk_at "rd1")
local macro_rules | `(tactic| walk_at "rd1") => `(tactic| first
  | with_reducible refine r_addS ?_
  | with_reducible refine r_lenS ?_
  | with_reducible refine r_eqS ?_
  | with_reducible refine r_neS ?_
  | with_reducible refine r_iES ?_
  | with_reducible refine r_iES1 ?_
  | with_reducible refine r_iEL ?_)
section
variable {w : World} {P : Program} {base : Heap} {K : PySem.W.Frag} {mg : Str → Option Value}
def topS (i : Nat) : Stmt := PySem.Challenge.pw_heapgame_k02_texts_of_layouts.main.body.getD i (.Pass ⟨0, 0, 0, 0⟩)
def inS (i j : Nat) : Stmt := match topS i with | .ClassDef _ _ _ b _ _ _ _ _ _ _ => b.getD j (.Pass ⟨0, 0, 0, 0⟩) | _ => .Pass ⟨0, 0, 0, 0⟩
abbrev s_law_cell : Stmt := topS 11
theorem sc_law_cell : FnScope ["script", "k"] ["script", "k"] (defScope s_law_cell) := ⟨rfl, rfl, rfl, by decide +kernel, rfl, by decide +kernel, by decide +kernel⟩
abbrev s_law_digits : Stmt := topS 12
theorem sc_law_digits : FnScope ["script", "first", "last", "digits", "k", "cell", "turn", "seed"] ["script", "first", "last"] (defScope s_law_digits) := ⟨rfl, rfl, rfl, by decide +kernel, rfl, by decide +kernel, by decide +kernel⟩
abbrev s_law_draw : Stmt := topS 13
theorem sc_law_draw : FnScope ["box", "many", "at"] ["box", "many"] (defScope s_law_draw) := ⟨rfl, rfl, rfl, by decide +kernel, rfl, by decide +kernel, by decide +kernel⟩
abbrev s_law_blocks : Stmt := topS 19
theorem sc_law_blocks : FnScope ["box", "size", "most", "blocks", "at", "k", "start", "length"] ["box", "size", "most"] (defScope s_law_blocks) := ⟨rfl, rfl, rfl, by decide +kernel, rfl, by decide +kernel, by decide +kernel⟩
abbrev s_law_cells : Stmt := topS 20
theorem sc_law_cells : FnScope ["size", "blocks", "cells", "k", "at"] ["size", "blocks"] (defScope s_law_cells) := ⟨rfl, rfl, rfl, by decide +kernel, rfl, by decide +kernel, by decide +kernel⟩
abbrev s_law_is_blocks : Stmt := topS 22
theorem sc_law_is_blocks : FnScope ["xs", "x"] ["xs"] (defScope s_law_is_blocks) := ⟨rfl, rfl, rfl, by decide +kernel, rfl, by decide +kernel, by decide +kernel⟩
abbrev s_format_layout : Stmt := topS 6
theorem sc_format_layout : FnScope ["size", "layout", "text", "index", "start", "length", "letter"] ["size", "layout"] (defScope s_format_layout) := ⟨rfl, rfl, rfl, by decide +kernel, rfl, by decide +kernel, by decide +kernel⟩
abbrev s_continues : Stmt := topS 8
theorem sc_continues : FnScope ["layout", "place", "character", "start", "length"] ["layout", "place", "character"] (defScope s_continues) := ⟨rfl, rfl, rfl, by decide +kernel, rfl, by decide +kernel, by decide +kernel⟩
abbrev s_begins : Stmt := topS 9
theorem sc_begins : FnScope ["layout", "character"] ["layout", "character"] (defScope s_begins) := ⟨rfl, rfl, rfl, by decide +kernel, rfl, by decide +kernel, by decide +kernel⟩
abbrev s_parse_layout : Stmt := topS 7
theorem sc_parse_layout : FnScope ["text", "layout", "place", "character", "start", "length"] ["text"] (defScope s_parse_layout) := ⟨rfl, rfl, rfl, by decide +kernel, rfl, by decide +kernel, by decide +kernel⟩
abbrev s_law_fault : Stmt := topS 23
theorem sc_law_fault : FnScope ["text", "many", "at", "again"] ["text"] (defScope s_law_fault) := ⟨rfl, rfl, rfl, by decide +kernel, rfl, by decide +kernel, by decide +kernel⟩
abbrev s_law_read : Stmt := topS 24
theorem sc_law_read : FnScope ["text", "e"] ["text"] (defScope s_law_read) := ⟨rfl, rfl, rfl, by decide +kernel, rfl, by decide +kernel, by decide +kernel⟩
abbrev s_law : Stmt := topS 25
theorem sc_law : FnScope ["script", "box", "size", "layout", "cells", "due", "cell", "text", "at", "sign", "other", "fault", "told"] ["script"] (defScope s_law) := ⟨rfl, rfl, rfl, by decide +kernel, rfl, by decide +kernel, by decide +kernel⟩
structure Txt (mg : Str → Option Value) : Prop where
  FREE : ∃ t, mg "FREE" = some (.str "." t)
  LETTERS : ∃ t, mg "LETTERS" = some (.str "abcdefghijklmnopqrstuvwxyz" t)
  bool : mg "bool" = none
  enumerate : mg "enumerate" = none
  int : mg "int" = none
  isinstance : mg "isinstance" = none
  len : mg "len" = none
  list : mg "list" = none
  range : mg "range" = none
  tuple : mg "tuple" = none
abbrev s_TextError : Stmt := inS 2 0
theorem sc_TextError : NdefX.NScope ["self", "place", "__class__"] ["self", "place"] ["__class__"] (defScope s_TextError) := NdefX.nscope_by (by decide +kernel)
theorem mk_TextError {C cc cda f : Addr} {oc kV dc pm ct ccl : Value} {od an cdd : Option Addr} {sl ccs : Array (Option Value)} {vs0 : Array Value} {file : Str} {tf : Tok} (hm : mg "TextError" = some (.ref C)) (O : OwnX K C cc)
    (lk : K.lookup f = some ⟨oc, od, .func (PySem.W.ksFn "__init__" "TextError.__init__" (defArgs s_TextError) (defBody s_TextError) (defScope s_TextError) .none kV dc pm an (.ref cda) ct cc), sl⟩) (hcd : PySem.W.codeIn K (.ref cda) "TextError.__init__" = true)
    (hrec : K.lookup cda = some ⟨ccl, cdd, .fields vs0, ccs⟩) (hvs : vs0[2]? = some (.str file tf)) (hfile : ((P.main.file : Str) == file) = true) (htop : (P.main.scope.names.lookup ("super" : Str)).isSome = false) (hsup : mg "super" = none)
    (iC : PySem.W.findIn K (.ref C) "__init__" = some (some (.ref f))) (tI : PySem.W.typeIn K (.ref f) = some (.type "function")) (no : PySem.W.findIn K (.ref C) "place" = some none) :
    XCal P w K mg base "TextError" C 1 f (PySem.W.ksFn "__init__" "TextError.__init__" (defArgs s_TextError) (defBody s_TextError) (defScope s_TextError) .none kV dc pm an (.ref cda) ct cc) ["self", "place"] (sp_exc1 C "place") := by
  refine ⟨fn_sup (body := defBody s_TextError) (params := defArgs s_TextError) (scope := defScope s_TextError) O lk hcd hrec hvs hfile htop hsup rfl sc_TextError rfl rfl rfl rfl (fun env => rfl) (fun env => rfl) (fun env l => rfl) (fun s => rfl) (fun vs H Q E h => ?_) (fun A outer s H vs Q E hr h => ?_), O.T, iC, tI, .all fun us hl => match us, hl with | [_, _], _ => rfl, hm⟩
  · obtain ⟨a, i, rfl, _⟩ := h
    rfl
  obtain ⟨a, i, rfl, hi, ha, q⟩ := h
  refine ⟨a, [.int i], _, _, rfl, ha, (pa_cons (pe_joined (.cons pe_str (.cons (pe_fmt (pv 1)) (.cons pe_str .nil)))) pa_nil), (pss_one (ps_ost (pv 0) (pv 1))), ?_⟩
  rw [show NdefX.startF ["self", "place", "__class__"] [V.ref a, V.int i] [none] = [some (.ref a), some (.int i), none] from rfl]
  refine r_cons ?_
  refine js_start ?_
  refine js_str (by decide +kernel) (by decide) ?_
  refine js_fmt rfl hi (by decide) ?_
  refine js_str (by decide +kernel) (by decide) ?_
  refine js_nil fun out => ?_
  refine r_nil ⟨ha, by simp, ?_⟩
  exact ⟨.int i, rfl, .ref a, rfl, a, C, rfl, O.T, no, .inl ⟨ha, q⟩⟩
def sp_cell (K : PySem.W.Frag) : Sp := fun vs H Q _ => ∃ (a : Addr) (ns : List Int) (k : Nat), vs = [.ref a, .int k] ∧ SqL K H a (ns.map V.int) ∧ ∀ c, Q (.int c) H
theorem mk_law_cell {f : Addr} {fd : FuncData} (T : Txt mg) (F : Fun K "_law_cell" "_law_cell" s_law_cell f fd) (m : mg "_law_cell" = some (.ref f)) (b : Binds K fd ["script", "k"] []) :
    Cal P w K mg base "_law_cell" 1 f fd ["script", "k"] (sp_cell K) := by
  refine ⟨F.ok sc_law_cell (fun vs H Q E h => ?_) (fun cdv A outer s H vs Q E hr h => ?_), m, F.kp, b⟩
  · rcases h with ⟨a, ns, k, rfl, _⟩
    rfl
  obtain ⟨a, ns, k, rfl, hS, q⟩ := h
  refine ⟨_, (pss_cons (ps_if (pt_cmpR op_lt (pv 1) (pe_callB (show CallR _ _ (fun xs H Q => ∃ p ys, xs = [V.ref p] ∧ (SqL K H p ys ∨ SqT K H p ys) ∧ Q (.int ys.length) H) from call_len_seq) (by rfl) T.len PySem.boot_len (pa_cons (pv 0) pa_nil)) (nomark _))
      (pss_one (ps_ret (pe_ix (show IxR _ (rIxL K) from ix_list) (pv 0) (pv 1) (fun _ _ => rfl))))
      pss_nil) (pss_one (ps_ret pe_int))), ?_⟩
  try dsimp only [cxOf, Cx.nox, Cx.wish]
  rw [show start ["script", "k"] [V.ref a, V.int k] = [some (V.ref a), some (V.int k)] from rfl]
  refine r_seq ?_
  walk_at "rd"
  refine r_ite (fun c => ?_) (fun c => ?_)
  · rw [List.length_map] at c
    walk_at "rd"
    refine r_ixL hS (at_int (by omega) (by omega)) ?_
    exact q _
  · walk_at "rd"
    exact q _
def sp_digits (K : PySem.W.Frag) : Sp := fun vs H Q _ => ∃ (a : Addr) (ns : List Int) (f l : Nat), vs = [.ref a, .int f, .int l] ∧ SqL K H a (ns.map V.int) ∧ f ≤ l ∧ l ≤ 63 ∧
  ∀ (p : Addr) (ds : List Int) (H' : Hp), H p = none → Same H H' → H' p = some (.lst (ds.map V.int)) → ds.length ≤ 60 * (l - f) → Q (.ref p) H'
theorem mk_law_digits {f f1 : Addr} {fd fd1 : FuncData} (T : Txt mg) (F : Fun K "_law_digits" "_law_digits" s_law_digits f fd) (m : mg "_law_digits" = some (.ref f)) (b : Binds K fd ["script", "first", "last"] [])
    (C_law_cell : Cal P w K mg base "_law_cell" 1 f1 fd1 ["script", "k"] (sp_cell K)) :
    Cal P w K mg base "_law_digits" 2 f fd ["script", "first", "last"] (sp_digits K) := by
  refine ⟨F.ok sc_law_digits (fun vs H Q E h => ?_) (fun cdv A outer s H vs Q E hr h => ?_), m, F.kp, b⟩
  · obtain ⟨a, ns, f, l, rfl, _⟩ := h
    rfl
  obtain ⟨a, ns, f, l, rfl, hS, hfl, hl, q⟩ := h
  refine ⟨_, (pss_cons (ps_set (i := 3) sc_law_digits.nd rfl (Or.inl rfl) (pe_lst pa_nil)) (pss_cons (ps_for PassesOwn.never rfl (pi_range2 rfl T.range (pa_cons (pv 1) (pa_cons (pv 2) pa_nil))) (pg_name (i := 4) sc_law_digits.nd rfl (Or.inl rfl))
      (pss_cons (ps_set (i := 5) sc_law_digits.nd rfl (Or.inl rfl) (pe_call C_law_cell.ok (hr.mono (by first | decide | omega)) rfl C_law_cell.mg C_law_cell.kp C_law_cell.b .nil pass0 (pa_cons (pv 0) (pa_cons (pv 4) pa_nil)))) (pss_cons (ps_if (pt_cmpR op_lt (pv 5) pe_int (nomark _))
      (pss_one (ps_set (i := 5) sc_law_digits.nd rfl (Or.inl rfl) (pe_op op_sub pe_int (pe_op op_mul pe_int (pv 5)))))
      pss_nil) (pss_one (ps_if (pt_cmpR op_ge (pv 5) (pe_op op_pow pe_int pe_int) (nomark _))
      (pss_one (ps_for PassesOwn.never rfl (pi_range1 rfl T.range (pa_cons pe_int pa_nil)) (pg_name (i := 6) sc_law_digits.nd rfl (Or.inl rfl))
      (pss_one (ps_if (pt_cmpR op_gt (pv 5) pe_int (nomark _))
      (pss_cons (ps_expr (pe_bm PySem.F.plainAttrs_list PySem.F.slot_list_append PySem.F.type_list_append mt_append (pv 3) (pa_cons (pe_op op_mod (pe_callTy call_int1 (by rfl) T.int (by decide +kernel) (pa_cons (pv 5) pa_nil)) pe_int) pa_nil))) (pss_one (ps_set (i := 5) sc_law_digits.nd rfl (Or.inl rfl) (pe_op op_fdiv (pv 5) pe_int))))
      pss_nil))))
      (pss_cons (ps_set (i := 7) sc_law_digits.nd rfl (Or.inl rfl) (pe_op op_mod (pe_callTy call_int1 (by rfl) T.int (by decide +kernel) (pa_cons (pe_op op_add (pe_op op_add (pe_op op_mul (pv 5) pe_int) (pe_op op_mul (pv 4) pe_int)) pe_int) pa_nil)) pe_int)) (pss_one (ps_for PassesOwn.never rfl (pi_range1 rfl T.range (pa_cons pe_int pa_nil)) (pg_name (i := 6) sc_law_digits.nd rfl (Or.inl rfl))
      (pss_cons (ps_set (i := 7) sc_law_digits.nd rfl (Or.inl rfl) (pe_op op_mod (pe_callTy call_int1 (by rfl) T.int (by decide +kernel) (pa_cons (pe_op op_add (pe_op op_add (pe_op op_mul (pv 7) pe_int) (pe_op op_mul pe_int (pv 6))) pe_int) pa_nil)) pe_int)) (pss_one (ps_expr (pe_bm PySem.F.plainAttrs_list PySem.F.slot_list_append PySem.F.type_list_append mt_append (pv 3) (pa_cons (pe_op op_mod (pe_callTy call_int1 (by rfl) T.int (by decide +kernel) (pa_cons (pe_op op_fdiv (pv 7) pe_int) pa_nil)) pe_int) pa_nil))))))))))))) (pss_one (ps_ret (pv 3))))), ?_⟩
  try dsimp only [cxOf, Cx.nox, Cx.wish]
  rw [show start ["script", "first", "last", "digits", "k", "cell", "turn", "seed"] [V.ref a, V.int f, V.int l] = [some (V.ref a), some (V.int f), some (V.int l), none, none, none, none, none] from rfl]
  walk_at "rd"
  refine ⟨by decide, fun p np => ?_⟩
  walk_at "rd"
  refine ⟨by omega, ?_⟩
  refine for_range (lo := (f : Int)) (n := ((l : Int) - f).toNat) (fun i σ H' => ∃ x4 x5 x6 x7 ds, σ = [some (.ref a), some (.int f), some (.int l), some (.ref p), x4, x5, x6, x7] ∧ Same H H' ∧ H' p = some (.lst (ds.map V.int)) ∧ ds.length ≤ 60 * i)
    ⟨none, none, none, none, [], rfl, same_upd np, upd_same, by simp⟩ ?_ ?_
  · rintro i σ H1 hi ⟨x4, x5, x6, x7, ds, rfl, s1, hp, hd⟩
    have npa : ∀ z, H1 p = some z → True := fun _ _ => trivial
    walk_at "rd"
    refine ⟨a, ns, f + i, by simp, s1.seq hS, fun c => ?_⟩
    walk_at "rd"
    refine r_seqG fun R hR => ?_
    have key : ∀ c2 : Int, R [some (.ref a), some (.int f), some (.int l), some (.ref p), some (.int (f + i)), some (.int c2), x6, x7] H1 := by
      intro c2
      refine hR _ _ ?_
      walk_at "rd"
      refine r_ite (fun c => ?_) (fun c => ?_)
      · walk_at "rd"
        refine ⟨by decide, by decide, ?_⟩
        refine for_range (lo := 0) (n := 60) (fun j σ H' => ∃ (y6 : Option V) (es : List Int) (c3 : Int), σ = [some (.ref a), some (.int f), some (.int l), some (.ref p), some (.int (f + i)), some (.int c3), y6, x7] ∧ Same H H' ∧ H' p = some (.lst (es.map V.int)) ∧ es.length ≤ 60 * i + j)
          ⟨x6, ds, c2, rfl, s1, hp, by omega⟩ ?_ ?_
        · rintro j σ H2 hj ⟨y6, es, c3, rfl, s2, hp2, he⟩
          walk_at "rd"
          refine r_ite (fun c => ?_) (fun c => ?_)
          · walk_at "rd"
            refine ⟨ty_lst hp2, ?_⟩
            walk_at "rd"
            refine r_app hp2 (by rw [List.length_map, sizeLine_eq]; omega) fun H3 hp3 u3 => ?_
            walk_at "rd"
            exact ⟨_, es ++ [c3 % 1000], _, rfl, u3.new np s2, by rw [hp3, List.map_append]; rfl, by rw [List.length_append]; simp; omega⟩
          · walk_at "rd"
            exact ⟨_, es, c3, rfl, s2, hp2, by omega⟩
        · rintro σ H2 ⟨y6, es, c3, rfl, s2, hp2, he⟩
          exact ⟨_, _, _, _, es, rfl, s2, hp2, by omega⟩
      · walk_at "rd"
        refine ⟨by decide, by decide, ?_⟩
        refine for_range (lo := 0) (n := 12) (fun j σ H' => ∃ (y6 : Option V) (es : List Int) (c3 : Int), σ = [some (.ref a), some (.int f), some (.int l), some (.ref p), some (.int (f + i)), some (.int c2), y6, some (.int c3)] ∧ Same H H' ∧ H' p = some (.lst (es.map V.int)) ∧ es.length ≤ 60 * i + j)
          ⟨x6, ds, _, rfl, s1, hp, by omega⟩ ?_ ?_
        · rintro j σ H2 hj ⟨y6, es, c3, rfl, s2, hp2, he⟩
          walk_at "rd"
          refine ⟨ty_lst hp2, ?_⟩
          walk_at "rd"
          refine r_app hp2 (by rw [List.length_map, sizeLine_eq]; omega) fun H3 hp3 u3 => ?_
          walk_at "rd"
          exact ⟨_, es ++ [_], _, rfl, u3.new np s2, by rw [hp3, List.map_append]; rfl, by rw [List.length_append]; simp; omega⟩
        · rintro σ H2 ⟨y6, es, c3, rfl, s2, hp2, he⟩
          exact ⟨_, _, _, _, es, rfl, s2, hp2, by omega⟩
    walk_at "rd"
    refine r_ite (fun c => ?_) (fun c => ?_)
    · walk_at "rd"
      exact key _
    · walk_at "rd"
      exact key _
  · rintro σ H1 ⟨x4, x5, x6, x7, ds, rfl, s1, hp, hd⟩
    walk_at "rd"
    exact q p ds H1 np s1 hp (by omega)
def sp_draw : Sp := fun vs H Q _ => ∃ (b d : Addr) (m : Int), vs = [.ref b, .int m] ∧ 0 < m ∧ Bx H b d ∧ ∀ (r : Int) (H' : Hp), 0 ≤ r → r < m → Bx H' b d → But b H H' → Q (.int r) H'
theorem mk_law_draw {f : Addr} {fd : FuncData} (T : Txt mg) (F : Fun K "_law_draw" "_law_draw" s_law_draw f fd) (m : mg "_law_draw" = some (.ref f)) (b : Binds K fd ["box", "many"] []) :
    Cal P w K mg base "_law_draw" 1 f fd ["box", "many"] sp_draw := by
  refine ⟨F.ok sc_law_draw (fun vs H Q E h => ?_) (fun cdv A outer s H vs Q E hr h => ?_), m, F.kp, b⟩
  · obtain ⟨b, d, m, rfl, _⟩ := h
    rfl
  obtain ⟨b, d, m, rfl, hm, ⟨ds, k, hb, hd, nd⟩, q⟩ := h
  refine ⟨_, (pss_cons (ps_set (i := 2) sc_law_draw.nd rfl (Or.inl rfl) (pe_ix (show IxR _ (rIxL K) from ix_list) (pv 0) pe_int (fun _ _ => rfl))) (pss_cons (ps_asg (pe_op op_add (pv 2) pe_int) (pg_sub (pv 0) pe_int set_list)) (pss_cons (ps_if (pt_cmpR op_lt (pv 2) (pe_callB (show CallR _ _ (fun xs H Q => ∃ p ys, xs = [V.ref p] ∧ (SqL K H p ys ∨ SqT K H p ys) ∧ Q (.int ys.length) H) from call_len_seq) (by rfl) T.len PySem.boot_len (pa_cons (pe_ix (show IxR _ (rIxL K) from ix_list) (pv 0) pe_int (fun _ _ => rfl)) pa_nil)) (nomark _))
      (pss_one (ps_ret (pe_op op_mod (pe_callTy call_int1 (by rfl) T.int (by decide +kernel) (pa_cons (pe_ix (show IxR _ (rIxL K) from ix_list) (pe_ix (show IxR _ (rIxL K) from ix_list) (pv 0) pe_int (fun _ _ => rfl)) (pv 2) (fun _ _ => rfl)) pa_nil)) (pv 1))))
      pss_nil) (pss_one (ps_ret pe_int))))), ?_⟩
  try dsimp only [cxOf, Cx.nox, Cx.wish]
  rw [show start ["box", "many", "at"] [V.ref b, V.int m] = [some (V.ref b), some (V.int m), none] from rfl]
  walk_at "rd"
  refine r_setL hb (j := 1) rfl fun H1 hb1 u1 => ?_
  have hd1 := u1 _ _ nd hd
  refine r_seq ?_
  walk_at "rd"
  have B1 : Bx H1 b d := ⟨ds, k + 1, hb1, hd1, nd⟩
  refine r_ite (fun c => ?_) (fun c => ?_)
  · rw [List.length_map] at c
    walk_at "rd"
    refine r_ixL (SqL.of hd1) (at_int (by omega) (by omega)) ?_
    walk_at "rd"
    exact q _ _ (Int.emod_nonneg _ (by omega)) (Int.emod_lt_of_pos _ hm) B1 u1
  · walk_at "rd"
    exact q _ _ (by omega) hm B1 u1
end
end Pf

namespace Pf
open PySem L2
local macro_rules | `(tactic| walk_at "rd1") => `(tactic| first
  | with_reducible refine r_seqA ?_
  | with_reducible refine r_seqD ?_
  | with_reducible refine r_seqF ?_
  | with_reducible refine r_seqN ?_
  | with_reducible refine r_asg ?_
  | with_reducible refine r_drop ?_
  | with_reducible refine r_ret ?_
  | with_reducible refine r_ifS ?_
  | ((with_reducible refine r_next ?_); try dsimp only)
  | ((with_reducible refine r_name ?_); try dsimp only [List.set_cons_succ, List.set_cons_zero, wipe])
  | ((with_reducible refine' r_var ?rdh ?_); (case rdh => rfl))
  | with_reducible refine r_c ?_
  | with_reducible refine r_op ?_
  | with_reducible refine r_un ?_
  | with_reducible refine r_I0 ?_
  | ((with_reducible refine r_I ?_ ?_); (· first | decide | exact Or.inl (by decide) | exact Or.inr (by decide) | (show _ ∧ _; constructor <;> decide) | (show (0:Int) < _; omega) | (show CDiv _ _; unfold CDiv; omega) ))
  | with_reducible refine r_U ?_
  | with_reducible refine r_eqI ?_
  | with_reducible refine r_neI ?_
  | with_reducible refine r_eqB ?_
  | with_reducible refine r_neB ?_
  | with_reducible refine r_test ?_
  | with_reducible refine r_B ?_
  | with_reducible refine r_bl ?_
  | with_reducible refine r_bl2 ?_
  | with_reducible refine r_yes ?_
  | with_reducible refine r_wipe (by rfl) ?_
  | with_reducible refine r_rfl ?_
  | ((with_reducible refine' r_eqA ?rdh ?_); (case rdh => rfl))
  | with_reducible refine r_and ?_
  | with_reducible refine r_or ?_
  | with_reducible refine r_not ?_
  | with_reducible refine r_andV ?_
  | with_reducible refine r_orV ?_
  | with_reducible refine r_notV ?_
  | with_reducible refine r_ifE ?_
  | with_reducible refine r_nil ?_
  | with_reducible refine r_cons ?_
  | with_reducible refine r_tup ?_
  | with_reducible refine r_lst ?_
  | with_reducible refine r_CB ?_
  | with_reducible refine r_call ?_
  | with_reducible refine r_bm ?_
  | with_reducible refine r_bm0 ?_
  | with_reducible refine r_int ?_
  | with_reducible refine r_i2 ?_
  | with_reducible refine r_i1 ?_
  | with_reducible refine r_gcons ?_
  | with_reducible refine r_gnil ?_
  | with_reducible refine r_gsub ?_
  | with_reducible refine iteT ?_
  | with_reducible refine iteF ?_
  | with_reducible refine ite_notT ?_
  | with_reducible refine ite_notF ?_
  | with_reducible refine r_isi_ib ?_
  | with_reducible refine r_isi_ii ?_
  | with_reducible refine r_isi_bb ?_
  | with_reducible refine r_isi_nb ?_
  | with_reducible refine r_isi_nt ?_
  | ((with_reducible refine' r_isi_ll ?rdh ?_); (case rdh => first | assumption | exact upd_same))
  | ((with_reducible refine' r_isi_tt ?rdh ?_); (case rdh => first | assumption | exact upd_same))
  | with_reducible refine r_sl ?_
  | with_reducible refine r_noPart ?_
  | with_reducible refine r_part ?_
  | with_reducible refine r_int1 ?_
  | with_reducible refine r_tru ?_
  | with_reducible refine r_ckw ?_
  | with_reducible refine r_lc ?_
  | with_reducible refine r_lc2 ?_
  | with_reducible refine r_forS ?_
  | with_reducible refine r_iR1 ?_
  | with_reducible refine r_iR2 ?_
  | with_reducible refine r_iL ?_
  | ((with_reducible refine' r_lenL ?rdh ?_); (case rdh => walk_at "sq"))
  | ((with_reducible refine' r_ixL ?rdh ?rda ?_); (case rdh => walk_at "sq"); (case rda => walk_at "at"))
  | ((with_reducible refine' r_ixT ?rdh ?rda ?_); (case rdh => walk_at "sq"); (case rda => walk_at "at")))
local macro_rules | `(tactic| walk_at "sq") => `(tactic| first
  | assumption
  | exact SqL.of (by assumption)
  | exact SqL.of upd_same
  | exact SqT.of (by assumption)
  | exact SqT.of upd_same)
local macro_rules | `(tactic| walk_at "sml") => `(tactic| (rw [sizeLine_eq]; simp))
local macro_rules | `(tactic| walk_at "at") => `(tactic| first | assumption | rfl)
local macro_rules | `(tactic| walk_at "rd") => `(tactic| repeat walk_at "rd1")
local macro_rules | `(tactic| walk_at "rd1") => `(tactic| first
  | with_reducible refine r_addS ?_
  | with_reducible refine r_lenS ?_
  | with_reducible refine r_eqS ?_
  | with_reducible refine r_neS ?_
  | with_reducible refine r_iES ?_
  | with_reducible refine r_iES1 ?_
  | with_reducible refine r_iEL ?_)
section
variable {w : World} {P : Program} {base : Heap} {K : PySem.W.Frag} {mg : Str → Option Value}
def sp_blocks : Sp := fun vs H Q _ => ∃ (b d : Addr) (size : Int) (most : Nat), vs = [.ref b, .int size, .int most] ∧ 0 ≤ size ∧ most ≤ 1000 ∧ Bx H b d ∧
  ∀ (L : Addr) (bs : List (Int × Int)) (H' : Hp), H L = none → Bx H' b d → But b H H' → LT bV H' L bs → VL size 0 bs → bs.length ≤ most → Q (.ref L) H'
theorem mk_law_blocks {f f1 : Addr} {fd fd1 : FuncData} (T : Txt mg) (F : Fun K "_law_blocks" "_law_blocks" s_law_blocks f fd) (m : mg "_law_blocks" = some (.ref f)) (b : Binds K fd ["box", "size", "most"] [])
    (C_law_draw : Cal P w K mg base "_law_draw" 1 f1 fd1 ["box", "many"] sp_draw) :
    Cal P w K mg base "_law_blocks" 2 f fd ["box", "size", "most"] sp_blocks := by
  refine ⟨F.ok sc_law_blocks (fun vs H Q E h => ?_) (fun cdv A outer s H vs Q E hr h => ?_), m, F.kp, b⟩
  · obtain ⟨b, d, size, most, rfl, _⟩ := h
    rfl
  obtain ⟨b, d, size, most, rfl, hz, hm, B, q⟩ := h
  refine ⟨_, (pss_cons (ps_set (i := 3) sc_law_blocks.nd rfl (Or.inl rfl) (pe_lst pa_nil)) (pss_cons (ps_set (i := 4) sc_law_blocks.nd rfl (Or.inl rfl) pe_int) (pss_cons (ps_for PassesOwn.never rfl (pi_range1 rfl T.range (pa_cons (pv 2) pa_nil)) (pg_name (i := 5) sc_law_blocks.nd rfl (Or.inl rfl))
      (pss_cons (ps_set (i := 6) sc_law_blocks.nd rfl (Or.inl rfl) (pe_op op_add (pv 4) (pe_ix (show IxR _ (rIxL K) from ix_list) (pe_lst (pa_cons pe_int (pa_cons pe_int (pa_cons pe_int (pa_cons pe_int (pa_cons pe_int (pa_cons pe_int pa_nil))))))) (pe_call C_law_draw.ok (hr.mono (by first | decide | omega)) rfl C_law_draw.mg C_law_draw.kp C_law_draw.b .nil pass0 (pa_cons (pv 0) (pa_cons pe_int pa_nil))) (fun _ _ => rfl)))) (pss_cons (ps_set (i := 7) sc_law_blocks.nd rfl (Or.inl rfl) (pe_op op_add pe_int (pe_ix (show IxR _ (rIxL K) from ix_list) (pe_lst (pa_cons pe_int (pa_cons pe_int (pa_cons pe_int (pa_cons pe_int (pa_cons pe_int (pa_cons pe_int pa_nil))))))) (pe_call C_law_draw.ok (hr.mono (by first | decide | omega)) rfl C_law_draw.mg C_law_draw.kp C_law_draw.b .nil pass0 (pa_cons (pv 0) (pa_cons pe_int pa_nil))) (fun _ _ => rfl)))) (pss_one (ps_if (PW.pt (pw_and (pt_cmpR op_le (pe_op op_add (pv 6) (pv 7)) (pv 1) (nomark _)) (pw_and1 (pt_cmpR op_gt (pe_call C_law_draw.ok (hr.mono (by first | decide | omega)) rfl C_law_draw.mg C_law_draw.kp C_law_draw.b .nil pass0 (pa_cons (pv 0) (pa_cons pe_int pa_nil))) pe_int (nomark _)))))
      (pss_cons (ps_expr (pe_bm PySem.F.plainAttrs_list PySem.F.slot_list_append PySem.F.type_list_append mt_append (pv 3) (pa_cons (pe_tup (pa_cons (pv 6) (pa_cons (pv 7) pa_nil))) pa_nil))) (pss_one (ps_set (i := 4) sc_law_blocks.nd rfl (Or.inl rfl) (pe_op op_add (pv 6) (pv 7)))))
      pss_nil))))) (pss_one (ps_ret (pv 3)))))), ?_⟩
  try dsimp only [cxOf, Cx.nox, Cx.wish]
  rw [show start ["box", "size", "most", "blocks", "at", "k", "start", "length"] [V.ref b, V.int size, V.int most] = [some (V.ref b), some (V.int size), some (V.int most), none, none, none, none, none] from rfl]
  walk_at "rd"
  refine ⟨by walk_at "sml", fun L nL => ?_⟩
  have nLb : L ≠ b := B.ne nL
  have nLd : L ≠ d := B.neD nL
  refine upd_new nL fun H1 hL s1 => ?_
  walk_at "rd"
  refine And.intro (by omega) ⟨by omega, ?_⟩
  refine for_range (lo := 0) (n := most) (fun k σ H' => ∃ (x5 x6 x7 : Option V) (ts : List Addr) (bs : List (Int × Int)), σ = [some (.ref b), some (.int size), some (.int most), some (.ref L), some (.int (endOf 0 bs)), x5, x6, x7] ∧ Bx H' b d ∧ But b H H' ∧ H' L = some (.lst (ts.map V.ref)) ∧ TL bV H' ts bs ∧ VL size 0 bs ∧ bs.length ≤ k)
    ⟨_, _, _, [], [], rfl, B.same s1, .of s1, hL, .nil, hz, Nat.le_refl _⟩ ?_ ?_
  · rintro k σ H2 hk ⟨x5, x6, x7, ts, bs, rfl, B2, u2, hL2, ht, hv, hl⟩
    rw [Int.zero_add]
    walk_at "rd"
    refine ⟨by walk_at "sml", fun m1 nm1 => ?_⟩
    refine upd_new nm1 fun H3 hm1 s3 => ?_
    have B3 := B2.same s3
    walk_at "rd"
    refine ⟨b, d, 6, rfl, by decide, B3, fun r3 H4 r30 r31 B4 u4 => ?_⟩
    obtain ⟨v1, hv1m, hv1⟩ := menu (ns := [0, 0, 0, 1, 1, 2]) r30 r31
    have hv10 : 0 ≤ v1 := by simp at hv1m; omega
    refine r_ixL (SqL.of (u4 _ _ (B2.ne nm1) hm1)) hv1 ?_
    walk_at "rd"
    refine ⟨by walk_at "sml", fun m2 nm2 => ?_⟩
    refine upd_new nm2 fun H5 hm2 s5 => ?_
    have B5 := B4.same s5
    walk_at "rd"
    refine ⟨b, d, 6, rfl, by decide, B5, fun r4 H6 r40 r41 B6 u6 => ?_⟩
    obtain ⟨v2, hv2m, hv2⟩ := menu (ns := [0, 0, 1, 1, 2, 3]) r40 r41
    have hv20 : 0 ≤ v2 := by simp at hv2m; omega
    refine r_ixL (SqL.of (u6 _ _ (B4.ne nm2) hm2)) hv2 ?_
    walk_at "rd"
    have U6 : But b H2 H6 := ((But.of s3).trans u4).trans ((But.of s5).trans u6)
    have hL6 := U6 _ _ nLb hL2
    have ht6 := ht.box U6 B2
    have V6 := u2.trans U6
    refine r_ite (fun c1 => ?_) (fun c1 => ?_)
    · walk_at "rd"
      refine ⟨b, d, 6, rfl, by decide, B6, fun r5 H7 r50 r51 B7 u7 => ?_⟩
      walk_at "rd"
      have hL7 := u7 _ _ nLb hL6
      have ht7 := ht6.box u7 B6
      refine r_ite (fun c2 => ?_) (fun c2 => ?_)
      · walk_at "rd"
        refine ⟨ty_lst hL7, ?_⟩
        walk_at "rd"
        refine ⟨by walk_at "sml", fun t nt => ?_⟩
        refine upd_new nt fun H8 hnt s8 => ?_
        have hL8 := s8 _ _ hL7
        walk_at "rd"
        refine r_app hL8 (by rw [ht7.len, sizeLine_eq]; omega) fun H9 hL9 u9 => ?_
        walk_at "rd"
        have nW : But b H H9 := fun a o na e => by
          have nLa : a ≠ L := ne_of_none e nL
          exact u9 _ _ nLa (s8 _ _ (u7 _ _ na (V6 _ _ na e)))
        refine ⟨some (.int k), some (.int (endOf 0 bs + v1)), some (.int (1 + v2)), ts ++ [t], bs ++ [(endOf 0 bs + v1, 1 + v2)], ?_, (B7.same s8).but u9 nLb nLd, nW, by rw [hL9, List.map_append]; rfl, ((ht7.same s8).but u9 hL8).snoc (u9 _ _ (ne_of hnt hL8 (by intro z; cases z)) hnt), hv.snoc (by omega) (by omega) (by omega), ?_⟩
        · rw [endOf_snoc]
        · rw [List.length_append]
          simp
          omega
      · walk_at "rd"
        exact ⟨_, _, _, ts, bs, rfl, B7, V6.trans u7, hL7, ht7, hv, by omega⟩
    · walk_at "rd"
      exact ⟨_, _, _, ts, bs, rfl, B6, V6, hL6, ht6, hv, by omega⟩
  · rintro σ H2 ⟨x5, x6, x7, ts, bs, rfl, B2, u2, hL2, ht, hv, hl⟩
    walk_at "rd"
    exact q L bs H2 nL B2 u2 ⟨ts, hL2, ht⟩ hv hl
end
end Pf

namespace Pf
open PySem L2
local macro_rules | `(tactic| walk_at "rd1") => `(tactic| first
  | with_reducible refine r_seqA ?_
  | with_reducible refine r_seqD ?_
  | with_reducible refine r_seqF ?_
  | with_reducible refine r_seqN ?_
  | with_reducible refine r_asg ?_
  | with_reducible refine r_drop ?_
  | with_reducible refine r_ret ?_
  | with_reducible refine r_ifS ?_
  | ((with_reducible refine r_next ?_); try dsimp only)
  | ((with_reducible refine r_name ?_); try dsimp only [List.set_cons_succ, List.set_cons_zero, wipe])
  | ((with_reducible refine' r_var ?rdh ?_); (case rdh => rfl))
  | with_reducible refine r_c ?_
  | with_reducible refine r_op ?_
  | with_reducible refine r_un ?_
  | with_reducible refine r_I0 ?_
  | ((with_reducible refine r_I ?_ ?_); (· first | decide | exact Or.inl (by decide) | exact Or.inr (by decide) | (show _ ∧ _; constructor <;> decide) | (show (0:Int) < _; omega) | (show CDiv _ _; unfold CDiv; omega) ))
  | with_reducible refine r_U ?_
  | with_reducible refine r_eqI ?_
  | with_reducible refine r_neI ?_
  | with_reducible refine r_eqB ?_
  | with_reducible refine r_neB ?_
  | with_reducible refine r_test ?_
  | with_reducible refine r_B ?_
  | with_reducible refine r_bl ?_
  | with_reducible refine r_bl2 ?_
  | with_reducible refine r_yes ?_
  | with_reducible refine r_wipe (by rfl) ?_
  | with_reducible refine r_rfl ?_
  | ((with_reducible refine' r_eqA ?rdh ?_); (case rdh => rfl))
  | with_reducible refine r_and ?_
  | with_reducible refine r_or ?_
  | with_reducible refine r_not ?_
  | with_reducible refine r_andV ?_
  | with_reducible refine r_orV ?_
  | with_reducible refine r_notV ?_
  | with_reducible refine r_ifE ?_
  | with_reducible refine r_nil ?_
  | with_reducible refine r_cons ?_
  | with_reducible refine r_tup ?_
  | with_reducible refine r_lst ?_
  | with_reducible refine r_CB ?_
  | with_reducible refine r_call ?_
  | with_reducible refine r_bm ?_
  | with_reducible refine r_bm0 ?_
  | with_reducible refine r_int ?_
  | with_reducible refine r_i2 ?_
  | with_reducible refine r_i1 ?_
  | with_reducible refine r_gcons ?_
  | with_reducible refine r_gnil ?_
  | with_reducible refine r_gsub ?_
  | with_reducible refine iteT ?_
  | with_reducible refine iteF ?_
  | with_reducible refine ite_notT ?_
  | with_reducible refine ite_notF ?_
  | with_reducible refine r_isi_ib ?_
  | with_reducible refine r_isi_ii ?_
  | with_reducible refine r_isi_bb ?_
  | with_reducible refine r_isi_nb ?_
  | with_reducible refine r_isi_nt ?_
  | ((with_reducible refine' r_isi_ll ?rdh ?_); (case rdh => first | assumption | exact upd_same))
  | ((with_reducible refine' r_isi_tt ?rdh ?_); (case rdh => first | assumption | exact upd_same))
  | with_reducible refine r_sl ?_
  | with_reducible refine r_noPart ?_
  | with_reducible refine r_part ?_
  | with_reducible refine r_int1 ?_
  | with_reducible refine r_tru ?_
  | with_reducible refine r_ckw ?_
  | with_reducible refine r_lc ?_
  | with_reducible refine r_lc2 ?_
  | with_reducible refine r_forS ?_
  | with_reducible refine r_iR1 ?_
  | with_reducible refine r_iR2 ?_
  | with_reducible refine r_iL ?_
  | ((with_reducible refine' r_lenL ?rdh ?_); (case rdh => walk_at "sq"))
  | ((with_reducible refine' r_ixL ?rdh ?rda ?_); (case rdh => walk_at "sq"); (case rda => walk_at "at"))
  | ((with_reducible refine' r_ixT ?rdh ?rda ?_); (case rdh => walk_at "sq"); (case rda => walk_at "at")))
local macro_rules | `(tactic| walk_at "sq") => `(tactic| first
  | assumption
  | exact SqL.of (by assumption)
  | exact SqL.of upd_same
  | exact SqT.of (by assumption)
  | exact SqT.of upd_same)
local macro_rules | `(tactic| walk_at "sml") => `(tactic| (rw [sizeLine_eq]; simp))
local macro_rules | `(tactic| walk_at "at") => `(tactic| first | assumption | rfl)
local macro_rules | `(tactic| walk_at "rd") => `(tactic| repeat walk_at "rd1")
local macro_rules | `(tactic| walk_at "rd1") => `(tactic| first
  | with_reducible refine r_addS ?_
  | with_reducible refine r_lenS ?_
  | with_reducible refine r_eqS ?_
  | with_reducible refine r_neS ?_
  | with_reducible refine r_iES ?_
  | with_reducible refine r_iES1 ?_
  | with_reducible refine r_iEL ?_)
section
variable {w : World} {P : Program} {base : Heap} {K : PySem.W.Frag} {mg : Str → Option Value}
def sp_cells : Sp := fun vs H Q _ => ∃ (a : Addr) (n : Nat) (bs : List (Int × Int)), vs = [.int n, .ref a] ∧ n ≤ 1000 ∧ LT bV H a bs ∧ VL n 0 bs ∧ bs.length ≤ 1000 ∧
  ∀ (p : Addr) (cs : List Int) (H' : Hp), H p = none → Same H H' → H' p = some (.lst (cs.map V.int)) → CellsOf n bs cs → Q (.ref p) H'
theorem mk_law_cells {f : Addr} {fd : FuncData} (T : Txt mg) (F : Fun K "_law_cells" "_law_cells" s_law_cells f fd) (m : mg "_law_cells" = some (.ref f)) (b : Binds K fd ["size", "blocks"] []) :
    Cal P w K mg base "_law_cells" 1 f fd ["size", "blocks"] sp_cells := by
  refine ⟨F.ok sc_law_cells (fun vs H Q E h => ?_) (fun cdv A outer s H vs Q E hr h => ?_), m, F.kp, b⟩
  · obtain ⟨a, n, bs, rfl, _⟩ := h
    rfl
  obtain ⟨a, n, bs, rfl, hn, hL, hv, hlen, q⟩ := h
  refine ⟨_, (pss_cons (show PS _ _ (tAsg (tLc _ _ _ _ [3]) _) from ps_setLc (i := 2) (own := [("k", 3)]) (g := gName 3) (tt := tYes) rfl sc_law_cells.nd rfl rfl (sw_true rfl rfl rfl (by decide +kernel)) (pi_range1 rfl T.range (pa_cons (pv 0) pa_nil)) (blkOk_by (own := [("k", 3)]) (N := ["size", "blocks", "cells", "k", "at"]) (sc := defScope s_law_cells) (by decide +kernel)) (fun _ _ _ _ _ => (pg_name (i := 3) sc_law_cells.nd rfl (Or.inl rfl))) (fun _ _ _ _ _ => pts_nil) (fun _ _ _ _ _ => pe_int)) (pss_cons (ps_for PassesOwn.never rfl (pi_range1 rfl T.range (pa_cons (pe_callB (show CallR _ _ (fun xs H Q => ∃ p ys, xs = [V.ref p] ∧ (SqL K H p ys ∨ SqT K H p ys) ∧ Q (.int ys.length) H) from call_len_seq) (by rfl) T.len PySem.boot_len (pa_cons (pv 1) pa_nil)) pa_nil)) (pg_name (i := 3) sc_law_cells.nd rfl (Or.inl rfl))
      (pss_one (ps_for PassesOwn.never rfl (pi_range2 rfl T.range (pa_cons (pe_ix (show IxR _ (rIxT K) from ix_tup) (pe_ix (show IxR _ (rIxL K) from ix_list) (pv 1) (pv 3) (fun _ _ => rfl)) pe_int (fun _ _ => rfl)) (pa_cons (pe_op op_add (pe_ix (show IxR _ (rIxT K) from ix_tup) (pe_ix (show IxR _ (rIxL K) from ix_list) (pv 1) (pv 3) (fun _ _ => rfl)) pe_int (fun _ _ => rfl)) (pe_ix (show IxR _ (rIxT K) from ix_tup) (pe_ix (show IxR _ (rIxL K) from ix_list) (pv 1) (pv 3) (fun _ _ => rfl)) pe_int (fun _ _ => rfl))) pa_nil))) (pg_name (i := 4) sc_law_cells.nd rfl (Or.inl rfl))
      (pss_one (ps_asg (pe_op op_add (pv 3) pe_int) (pg_sub (pv 2) (pv 4) set_list)))))) (pss_one (ps_ret (pv 2))))), ?_⟩
  try dsimp only [cxOf, Cx.nox, Cx.wish]
  rw [show start ["size", "blocks", "cells", "k", "at"] [V.int n, V.ref a] = [some (V.int n), some (V.ref a), none, none, none] from rfl]
  walk_at "rd"
  refine And.intro (by omega) ⟨by omega, ?_⟩
  intro D nD
  refine lc_range (lo := 0) (n := n) (fun i H' => H' D = some (.lst ((List.replicate i (0 : Int)).map V.int)) ∧ Same H H') ⟨upd_same, same_upd nD⟩ ?_ ?_
  · rintro i H1 hi ⟨hD, s1⟩
    walk_at "rd"
    refine ⟨_, hD, by rw [List.length_map, List.length_replicate, sizeLine_eq]; omega, ?_, But.upd.new nD s1⟩
    rw [upd_same, List.replicate_succ', List.map_append]
    rfl
  · rintro H1 ⟨hD, s1⟩
    obtain ⟨ts, ha, ht⟩ := hL.same s1
    walk_at "rd"
    rw [ht.len]
    refine And.intro (by omega) ⟨by omega, ?_⟩
    refine for_range (lo := 0) (n := bs.length) (fun k σ H' => ∃ (x3 x4 : Option V) (cs : List Int), σ = [some (.int n), some (.ref a), some (.ref D), x3, x4] ∧ Same H H' ∧ H' D = some (.lst (cs.map V.int)) ∧ cs.length = n ∧ ∀ i, i < n → cs[i]? = some (cellOf i 0 (bs.take k)))
      ⟨_, _, List.replicate n 0, rfl, s1, hD, by simp, fun i hi => by rw [List.getElem?_replicate_of_lt hi]; rfl⟩ ?_ ?_
    · rintro k σ H2 hk ⟨x3, x4, cs, rfl, s2, hD2, hcl, hcs⟩
      rw [Int.zero_add]
      obtain ⟨ts, ha, ht⟩ := hL.same s2
      obtain ⟨x, t, ex, ea, et⟩ := ht.at (i := (k : Int)) (by omega) (by omega)
      rw [Int.toNat_natCast] at ex
      have hx := hv.mem x (List.mem_of_getElem? ex)
      walk_at "rd"
      refine ⟨by omega, ?_⟩
      rw [show x.1 + x.2 - x.1 = x.2 by omega]
      refine for_range (lo := x.1) (n := x.2.toNat) (fun j σ H' => ∃ (x4 : Option V) (cs : List Int), σ = [some (.int n), some (.ref a), some (.ref D), some (.int k), x4] ∧ Same H H' ∧ H' D = some (.lst (cs.map V.int)) ∧ cs.length = n ∧ ∀ i, i < n → cs[i]? = some (if x.1 ≤ i ∧ i < x.1 + j then (k : Int) + 1 else cellOf i 0 (bs.take k)))
        ⟨_, cs, rfl, s2, hD2, hcl, fun i hi => by rw [hcs i hi, if_neg (by omega)]⟩ ?_ ?_
      · rintro j σ H3 hj ⟨x4, cs3, rfl, s3, hD3, hcl3, hcs3⟩
        walk_at "rd"
        refine r_setL hD3 (j := (x.1 + j).toNat) ?_ fun H4 hD4 u4 => ?_
        · unfold ixN
          rw [List.length_map, hcl3, if_pos (by omega), if_pos (by omega)]
        · refine ⟨_, cs3.set (x.1 + j).toNat ((k : Int) + 1), rfl, u4.new nD s3, by rw [hD4, List.map_set], by rw [List.length_set]; exact hcl3, fun i hi => ?_⟩
          rw [List.getElem?_set]
          by_cases e : (x.1 + j).toNat = i
          · rw [if_pos e, if_pos (by omega), if_pos (by omega)]
          · rw [if_neg e, hcs3 i hi]
            by_cases c : x.1 ≤ i ∧ i < x.1 + j
            · rw [if_pos c, if_pos (by omega)]
            · rw [if_neg c, if_neg (by omega)]
      · rintro σ H3 ⟨x4, cs3, rfl, s3, hD3, hcl3, hcs3⟩
        refine ⟨_, _, cs3, rfl, s3, hD3, hcl3, fun i hi => ?_⟩
        rw [hcs3 i hi, cellOf_snoc hv ex, Int.zero_add]
        rw [show ((x.2.toNat : Nat) : Int) = x.2 by omega]
    · rintro σ H2 ⟨x3, x4, cs, rfl, s2, hD2, hcl, hcs⟩
      walk_at "rd"
      refine q D cs H2 nD s2 hD2 ⟨by omega, fun i hi => ?_⟩
      rw [hcs i (by omega), List.take_length]
end
end Pf

namespace Pf
open PySem L2
local macro_rules | `(tactic| walk_at "rd1") => `(tactic| first
  | with_reducible refine r_seqA ?_
  | with_reducible refine r_seqD ?_
  | with_reducible refine r_seqF ?_
  | with_reducible refine r_seqN ?_
  | with_reducible refine r_asg ?_
  | with_reducible refine r_drop ?_
  | with_reducible refine r_ret ?_
  | with_reducible refine r_ifS ?_
  | ((with_reducible refine r_next ?_); try dsimp only)
  | ((with_reducible refine r_name ?_); try dsimp only [List.set_cons_succ, List.set_cons_zero, wipe])
  | ((with_reducible refine' r_var ?rdh ?_); (case rdh => rfl))
  | with_reducible refine r_c ?_
  | with_reducible refine r_op ?_
  | with_reducible refine r_un ?_
  | with_reducible refine r_I0 ?_
  | ((with_reducible refine r_I ?_ ?_); (· first | decide | exact Or.inl (by decide) | exact Or.inr (by decide) | (show _ ∧ _; constructor <;> decide) | (show (0:Int) < _; omega) | (show CDiv _ _; unfold CDiv; omega) ))
  | with_reducible refine r_U ?_
  | with_reducible refine r_eqI ?_
  | with_reducible refine r_neI ?_
  | with_reducible refine r_eqB ?_
  | with_reducible refine r_neB ?_
  | with_reducible refine r_test ?_
  | with_reducible refine r_B ?_
  | with_reducible refine r_bl ?_
  | with_reducible refine r_bl2 ?_
  | with_reducible refine r_yes ?_
  | with_reducible refine r_wipe (by rfl) ?_
  | with_reducible refine r_rfl ?_
  | ((with_reducible refine' r_eqA ?rdh ?_); (case rdh => rfl))
  | with_reducible refine r_and ?_
  | with_reducible refine r_or ?_
  | with_reducible refine r_not ?_
  | with_reducible refine r_andV ?_
  | with_reducible refine r_orV ?_
  | with_reducible refine r_notV ?_
  | with_reducible refine r_ifE ?_
  | with_reducible refine r_nil ?_
  | with_reducible refine r_cons ?_
  | with_reducible refine r_tup ?_
  | with_reducible refine r_lst ?_
  | with_reducible refine r_CB ?_
  | with_reducible refine r_call ?_
  | with_reducible refine r_bm ?_
  | with_reducible refine r_bm0 ?_
  | with_reducible refine r_int ?_
  | with_reducible refine r_i2 ?_
  | with_reducible refine r_i1 ?_
  | with_reducible refine r_gcons ?_
  | with_reducible refine r_gnil ?_
  | with_reducible refine r_gsub ?_
  | with_reducible refine iteT ?_
  | with_reducible refine iteF ?_
  | with_reducible refine ite_notT ?_
  | with_reducible refine ite_notF ?_
  | with_reducible refine r_isi_ib ?_
  | with_reducible refine r_isi_ii ?_
  | with_reducible refine r_isi_bb ?_
  | with_reducible refine r_isi_nb ?_
  | with_reducible refine r_isi_nt ?_
  | ((with_reducible refine' r_isi_ll ?rdh ?_); (case rdh => first | assumption | exact upd_same))
  | ((with_reducible refine' r_isi_tt ?rdh ?_); (case rdh => first | assumption | exact upd_same))
  | with_reducible refine r_sl ?_
  | with_reducible refine r_noPart ?_
  | with_reducible refine r_part ?_
  | with_reducible refine r_int1 ?_
  | with_reducible refine r_tru ?_
  | with_reducible refine r_ckw ?_
  | with_reducible refine r_lc ?_
  | with_reducible refine r_lc2 ?_
  | with_reducible refine r_forS ?_
  | with_reducible refine r_iR1 ?_
  | with_reducible refine r_iR2 ?_
  | with_reducible refine r_iL ?_
  | ((with_reducible refine' r_lenL ?rdh ?_); (case rdh => walk_at "sq"))
  | ((with_reducible refine' r_ixL ?rdh ?rda ?_); (case rdh => walk_at "sq"); (case rda => walk_at "at"))
  | ((with_reducible refine' r_ixT ?rdh ?rda ?_); (case rdh => walk_at "sq"); (case rda => walk_at "at")))
local macro_rules | `(tactic| walk_at "sq") => `(tactic| first
  | assumption
  | exact SqL.of (by assumption)
  | exact SqL.of upd_same
  | exact SqT.of (by assumption)
  | exact SqT.of upd_same)
local macro_rules | `(tactic| walk_at "sml") => `(tactic| (rw [sizeLine_eq]; simp))
local macro_rules | `(tactic| walk_at "at") => `(tactic| first | assumption | rfl)
local macro_rules | `(tactic| walk_at "rd") => `(tactic| repeat walk_at "rd1")
local macro_rules | `(tactic| walk_at "rd1") => `(tactic| first
  | with_reducible refine r_addS ?_
  | with_reducible refine r_lenS ?_
  | with_reducible refine r_eqS ?_
  | with_reducible refine r_neS ?_
  | with_reducible refine r_iES ?_
  | with_reducible refine r_iES1 ?_
  | with_reducible refine r_iEL ?_)
section
variable {w : World} {P : Program} {base : Heap} {K : PySem.W.Frag} {mg : Str → Option Value}
def sp_is_blocks : Sp := fun vs H Q _ => ∃ (a : Addr) (bs : List (Int × Int)), vs = [.ref a] ∧ LT bV H a bs ∧ Q (.bl true) H
theorem mk_law_is_blocks {f : Addr} {fd : FuncData} (T : Txt mg) (F : Fun K "_law_is_blocks" "_law_is_blocks" s_law_is_blocks f fd) (m : mg "_law_is_blocks" = some (.ref f)) (b : Binds K fd ["xs"] []) :
    Cal P w K mg base "_law_is_blocks" 1 f fd ["xs"] sp_is_blocks := by
  refine ⟨F.ok sc_law_is_blocks (fun vs H Q E h => ?_) (fun cdv A outer s H vs Q E hr h => ?_), m, F.kp, b⟩
  · obtain ⟨a, bs, rfl, _⟩ := h
    rfl
  obtain ⟨a, bs, rfl, ⟨ts, ha, ht⟩, q⟩ := h
  refine ⟨_, (pss_cons (ps_if (pt_not (pt_val (pe_callB (show CallR _ _ (rIsi K) from call_isi) (by rfl) T.isinstance (by decide +kernel) (pa_cons (pv 0) (pa_cons (pe_bltn (v := .ty "list") (u := .type "list") rfl T.list (by decide +kernel) rfl) pa_nil)))))
      (pss_one (ps_ret pe_bl))
      pss_nil) (pss_cons (ps_for PassesOwn.never rfl (pi_list (pv 0)) (pg_name (i := 1) sc_law_is_blocks.nd rfl (Or.inl rfl))
      (pss_one (ps_if (PW.pt (pw_or (pt_not (pt_val (pe_callB (show CallR _ _ (rIsi K) from call_isi) (by rfl) T.isinstance (by decide +kernel) (pa_cons (pv 1) (pa_cons (pe_bltn (v := .ty "tuple") (u := .type "tuple") rfl T.tuple (by decide +kernel) rfl) pa_nil))))) (pw_or (pt_cmpR op_ne (pe_callB (show CallR _ _ (fun xs H Q => ∃ p ys, xs = [V.ref p] ∧ (SqL K H p ys ∨ SqT K H p ys) ∧ Q (.int ys.length) H) from call_len_seq) (by rfl) T.len PySem.boot_len (pa_cons (pv 1) pa_nil)) pe_int (nomark _)) (pw_or (pt_val (pe_callB (show CallR _ _ (rIsi K) from call_isi) (by rfl) T.isinstance (by decide +kernel) (pa_cons (pe_ix (show IxR _ (rIxT K) from ix_tup) (pv 1) pe_int (fun _ _ => rfl)) (pa_cons (pe_bltn (v := .ty "bool") (u := .type "bool") rfl T.bool (by decide +kernel) rfl) pa_nil)))) (pw_or1 (pt_val (pe_callB (show CallR _ _ (rIsi K) from call_isi) (by rfl) T.isinstance (by decide +kernel) (pa_cons (pe_ix (show IxR _ (rIxT K) from ix_tup) (pv 1) pe_int (fun _ _ => rfl)) (pa_cons (pe_bltn (v := .ty "bool") (u := .type "bool") rfl T.bool (by decide +kernel) rfl) pa_nil)))))))))
      (pss_one (ps_ret pe_bl))
      pss_nil))) (pss_one (ps_ret pe_bl)))), ?_⟩
  try dsimp only [cxOf, Cx.nox, Cx.wish]
  rw [show start ["xs", "x"] [V.ref a] = [some (V.ref a), none] from rfl]
  refine r_seq ?_
  walk_at "rd"
  refine r_iL2 (SqL.of ha) ?_
  refine for_list (K := K) (a := a) (xs := ts.map V.ref) (fun i σ H' => ∃ (x1 : Option V), σ = [some (.ref a), x1] ∧ H' = H)
    ⟨none, rfl, rfl⟩ (fun i σ H' _ ⟨_, _, e⟩ => e ▸ SqL.of ha) ?_ ?_
  · rintro i x σ H' hx ⟨x1, rfl, rfl⟩
    rw [List.getElem?_map] at hx
    obtain ⟨t, et, rfl⟩ := Option.map_eq_some_iff.mp hx
    obtain ⟨x, eb, htup⟩ := ht.2 i t et
    walk_at "rd"
    refine r_lenT (SqT.of htup) ?_
    walk_at "rd"
    refine r_iteN (fun c => absurd rfl c) (fun _ => ?_)
    walk_at "rd"
    exact ⟨_, rfl, rfl⟩
  · rintro σ H' ⟨x1, rfl, rfl⟩
    walk_at "rd"
    exact q
end
end Pf

namespace Pf
open PySem L2
local macro_rules | `(tactic| walk_at "rd1") => `(tactic| first
  | with_reducible refine r_seqA ?_
  | with_reducible refine r_seqD ?_
  | with_reducible refine r_seqF ?_
  | with_reducible refine r_seqN ?_
  | with_reducible refine r_asg ?_
  | with_reducible refine r_drop ?_
  | with_reducible refine r_ret ?_
  | with_reducible refine r_ifS ?_
  | ((with_reducible refine r_next ?_); try dsimp only)
  | ((with_reducible refine r_name ?_); try dsimp only [List.set_cons_succ, List.set_cons_zero, wipe])
  | ((with_reducible refine' r_var ?rdh ?_); (case rdh => rfl))
  | with_reducible refine r_c ?_
  | with_reducible refine r_op ?_
  | with_reducible refine r_un ?_
  | with_reducible refine r_I0 ?_
  | ((with_reducible refine r_I ?_ ?_); (· first | decide | exact Or.inl (by decide) | exact Or.inr (by decide) | (show _ ∧ _; constructor <;> decide) | (show (0:Int) < _; omega) | (show CDiv _ _; unfold CDiv; omega) ))
  | with_reducible refine r_U ?_
  | with_reducible refine r_eqI ?_
  | with_reducible refine r_neI ?_
  | with_reducible refine r_eqB ?_
  | with_reducible refine r_neB ?_
  | with_reducible refine r_test ?_
  | with_reducible refine r_B ?_
  | with_reducible refine r_bl ?_
  | with_reducible refine r_bl2 ?_
  | with_reducible refine r_yes ?_
  | with_reducible refine r_wipe (by rfl) ?_
  | with_reducible refine r_rfl ?_
  | ((with_reducible refine' r_eqA ?rdh ?_); (case rdh => rfl))
  | with_reducible refine r_and ?_
  | with_reducible refine r_or ?_
  | with_reducible refine r_not ?_
  | with_reducible refine r_andV ?_
  | with_reducible refine r_orV ?_
  | with_reducible refine r_notV ?_
  | with_reducible refine r_ifE ?_
  | with_reducible refine r_nil ?_
  | with_reducible refine r_cons ?_
  | with_reducible refine r_tup ?_
  | with_reducible refine r_lst ?_
  | with_reducible refine r_CB ?_
  | with_reducible refine r_call ?_
  | with_reducible refine r_bm ?_
  | with_reducible refine r_bm0 ?_
  | with_reducible refine r_int ?_
  | with_reducible refine r_i2 ?_
  | with_reducible refine r_i1 ?_
  | with_reducible refine r_gcons ?_
  | with_reducible refine r_gnil ?_
  | with_reducible refine r_gsub ?_
  | with_reducible refine iteT ?_
  | with_reducible refine iteF ?_
  | with_reducible refine ite_notT ?_
  | with_reducible refine ite_notF ?_
  | with_reducible refine r_isi_ib ?_
  | with_reducible refine r_isi_ii ?_
  | with_reducible refine r_isi_bb ?_
  | with_reducible refine r_isi_nb ?_
  | with_reducible refine r_isi_nt ?_
  | ((with_reducible refine' r_isi_ll ?rdh ?_); (case rdh => first | assumption | exact upd_same))
  | ((with_reducible refine' r_isi_tt ?rdh ?_); (case rdh => first | assumption | exact upd_same))
  | with_reducible refine r_sl ?_
  | with_reducible refine r_noPart ?_
  | with_reducible refine r_part ?_
  | with_reducible refine r_int1 ?_
  | with_reducible refine r_tru ?_
  | with_reducible refine r_ckw ?_
  | with_reducible refine r_lc ?_
  | with_reducible refine r_lc2 ?_
  | with_reducible refine r_forS ?_
  | with_reducible refine r_iR1 ?_
  | with_reducible refine r_iR2 ?_
  | with_reducible refine r_iL ?_
  | ((with_reducible refine' r_lenL ?rdh ?_); (case rdh => walk_at "sq"))
  | ((with_reducible refine' r_ixL ?rdh ?rda ?_); (case rdh => walk_at "sq"); (case rda => walk_at "at"))
  | ((with_reducible refine' r_ixT ?rdh ?rda ?_); (case rdh => walk_at "sq"); (case rda => walk_at "at")))
local macro_rules | `(tactic| walk_at "sq") => `(tactic| first
  | assumption
  | exact SqL.of (by assumption)
  | exact SqL.of upd_same
  | exact SqT.of (by assumption)
  | exact SqT.of upd_same)
local macro_rules | `(tactic| walk_at "sml") => `(tactic| (rw [sizeLine_eq]; simp))
local macro_rules | `(tactic| walk_at "at") => `(tactic| first | assumption | rfl)
local macro_rules | `(tactic| walk_at "rd") => `(tactic| repeat walk_at "rd1")
local macro_rules | `(tactic| walk_at "rd1") => `(tactic| first
  | with_reducible refine r_addS ?_
  | with_reducible refine r_lenS ?_
  | with_reducible refine r_eqS ?_
  | with_reducible refine r_neS ?_
  | with_reducible refine r_iES ?_
  | with_reducible refine r_iES1 ?_
  | with_reducible refine r_iEL ?_)
section
variable {w : World} {P : Program} {base : Heap} {K : PySem.W.Frag} {mg : Str → Option Value}
def sp_format : Sp := fun vs H Q _ => ∃ (a : Addr) (n : Nat) (bs : List (Int × Int)), vs = [.int n, .ref a] ∧ n ≤ 200 ∧ LT bV H a bs ∧ VL n 0 bs ∧ bs.length ≤ 26 ∧ ∀ H', Same H H' → Q (.str (S (fxAll n bs))) H'
theorem mk_format_layout {f : Addr} {fd : FuncData} (T : Txt mg) (F : Fun K "format_layout" "format_layout" s_format_layout f fd) (m : mg "format_layout" = some (.ref f)) (b : Binds K fd ["size", "layout"] []) :
    Cal P w K mg base "format_layout" 1 f fd ["size", "layout"] sp_format := by
  refine ⟨F.ok sc_format_layout (fun vs H Q E h => ?_) (fun cdv A outer s H vs Q E hr h => ?_), m, F.kp, b⟩
  · obtain ⟨a, n, bs, rfl, _⟩ := h
    rfl
  obtain ⟨a, n, bs, rfl, hn, ⟨ts, ha, ht⟩, hv, hb, q⟩ := h
  refine ⟨_, (pss_cons (ps_set (i := 2) sc_format_layout.nd rfl (Or.inl rfl) pe_str) (pss_cons (ps_for PassesOwn.never rfl (pi_enum rfl T.enumerate (pa_cons (pv 1) pa_nil)) (pg_tup rfl (pgs_cons (pg_name (i := 3) sc_format_layout.nd rfl (Or.inl rfl)) (pgs_cons (pg_tup rfl (pgs_cons (pg_name (i := 4) sc_format_layout.nd rfl (Or.inl rfl)) (pgs_cons (pg_name (i := 5) sc_format_layout.nd rfl (Or.inl rfl)) pgs_nil))) pgs_nil)))
      (pss_cons (ps_set (i := 6) sc_format_layout.nd rfl (Or.inl rfl) (pe_ix ix_str (pe_gstr rfl T.LETTERS) (pe_op op_mod (pv 3) (pe_callB call_len_str (by rfl) T.len PySem.boot_len (pa_cons (pe_gstr rfl T.LETTERS) pa_nil))) (fun _ _ => rfl))) (pss_one (ps_set (i := 2) sc_format_layout.nd rfl (Or.inl rfl) (pe_op op_add_str (pe_op op_add_str (pv 2) (pe_op op_mulS (pe_gstr rfl T.FREE) (pe_op op_sub (pv 4) (pe_callB call_len_str (by rfl) T.len PySem.boot_len (pa_cons (pv 2) pa_nil))))) (pe_op op_mulS (pv 6) (pv 5))))))) (pss_one (ps_ret (pe_op op_add_str (pv 2) (pe_op op_mulS (pe_gstr rfl T.FREE) (pe_op op_sub (pv 0) (pe_callB call_len_str (by rfl) T.len PySem.boot_len (pa_cons (pv 2) pa_nil))))))))), ?_⟩
  try dsimp only [cxOf, Cx.nox, Cx.wish]
  rw [show start ["size", "layout", "text", "index", "start", "length", "letter"] [V.int n, V.ref a] = [some (V.int n), some (V.ref a), none, none, none, none, none] from rfl]
  walk_at "rd"
  refine r_iEL1 (SqL.of ha) ?_
  refine for_enumL (K := K) (a := a) (xs := ts.map V.ref) (fun i σ H' => ∃ (x3 x4 x5 x6 : Option V), σ = [some (.int n), some (.ref a), some (.str (S (fx [] 0 (bs.take i)))), x3, x4, x5, x6] ∧ Same H H')
    ⟨none, none, none, none, rfl, fun _ _ e => e⟩ (fun i σ H' _ ⟨_, _, _, _, _, e⟩ => SqL.of (e _ _ ha)) ?_ ?_
  · rintro i x σ H1 U hx ⟨x3, x4, x5, x6, rfl, s1⟩ nU
    rw [List.getElem?_map] at hx
    obtain ⟨t, et, rfl⟩ := Option.map_eq_some_iff.mp hx
    obtain ⟨⟨st, ln⟩, eb, htup⟩ := ht.2 i t et
    refine upd_new nU fun H2 hU s2 => ?_
    refine r_gtup (SqT.of hU) rfl ?_
    walk_at "rd"
    refine r_gtup (SqT.of (s2 _ _ (s1 _ _ htup))) rfl ?_
    walk_at "rd"
    have ei : i < bs.length := by
      by_cases z : i < bs.length
      · exact z
      · rw [List.getElem?_eq_none (by omega)] at eb; cases eb
    have htk : bs.take (i + 1) = bs.take i ++ [(st, ln)] := by rw [List.take_add_one, eb]; rfl
    have hx := hv.mem _ (List.mem_of_getElem? eb)
    dsimp only at hx
    have hlen : (fx [] 0 (bs.take i)).length ≤ n := by
      have hv2 : VL n 0 (bs.take i) := hv.take i
      exact (fxAll_len hv2).1
    refine ⟨by rw [abc_len, sizeLine_eq]; decide, ?_⟩
    rw [abc_len]
    dsimp only
    refine r_I (by decide) ?_
    rw [show (i : Int) % ((26 : Nat) : Int) = (i : Int) by omega]
    refine r_ixS (abc_at (by omega)) (by rw [abc_len, sizeLine_eq]; decide) ?_
    walk_at "rd"
    refine ⟨by rw [S_len, sizeLine_eq]; omega, ?_⟩
    rw [S_len]
    dsimp only
    refine r_I0 ?_
    rw [dot_txt]
    refine r_mulS (by omega) (by omega) ?_
    walk_at "rd"
    rw [S_len, S_len, S_append, List.length_replicate]
    refine ⟨by rw [sizeLine_eq]; omega, ?_⟩
    walk_at "rd"
    refine r_mulS (c := 97 + i) (by omega) (by omega) ?_
    walk_at "rd"
    rw [S_len, S_len, S_append, List.length_append, List.length_replicate, List.length_replicate]
    refine ⟨by rw [sizeLine_eq]; omega, ?_⟩
    walk_at "rd"
    refine ⟨some (.int i), some (.int st), some (.int ln), some (.str (S [97 + i])), ?_, s1.trans s2⟩
    rw [htk, fx_snoc, List.length_take, Nat.min_eq_left (by omega), Nat.zero_add]
  · rintro σ H1 ⟨x3, x4, x5, x6, rfl, s1⟩
    rw [List.length_map, ht.1, List.take_length]
    walk_at "rd"
    have hl := (fxAll_len hv).1
    refine ⟨by rw [S_len, sizeLine_eq]; omega, ?_⟩
    rw [S_len]
    dsimp only
    refine r_I0 ?_
    rw [dot_txt]
    refine r_mulS (by omega) (by omega) ?_
    walk_at "rd"
    rw [S_len, S_len, S_append, List.length_replicate]
    refine ⟨by rw [sizeLine_eq]; omega, ?_⟩
    have e : ((n : Int) - (fx [] 0 bs).length).toNat = n - (fx [] 0 bs).length := by omega
    rw [e]
    exact q H1 s1
end
end Pf

namespace Pf
open PySem L2
local macro_rules | `(tactic| walk_at "rd1") => `(tactic| first
  | with_reducible refine r_seqA ?_
  | with_reducible refine r_seqD ?_
  | with_reducible refine r_seqF ?_
  | with_reducible refine r_seqN ?_
  | with_reducible refine r_asg ?_
  | with_reducible refine r_drop ?_
  | with_reducible refine r_ret ?_
  | with_reducible refine r_ifS ?_
  | ((with_reducible refine r_next ?_); try dsimp only)
  | ((with_reducible refine r_name ?_); try dsimp only [List.set_cons_succ, List.set_cons_zero, wipe])
  | ((with_reducible refine' r_var ?rdh ?_); (case rdh => rfl))
  | with_reducible refine r_c ?_
  | with_reducible refine r_op ?_
  | with_reducible refine r_un ?_
  | with_reducible refine r_I0 ?_
  | ((with_reducible refine r_I ?_ ?_); (· first | decide | exact Or.inl (by decide) | exact Or.inr (by decide) | (show _ ∧ _; constructor <;> decide) | (show (0:Int) < _; omega) | (show CDiv _ _; unfold CDiv; omega) ))
  | with_reducible refine r_U ?_
  | with_reducible refine r_eqI ?_
  | with_reducible refine r_neI ?_
  | with_reducible refine r_eqB ?_
  | with_reducible refine r_neB ?_
  | with_reducible refine r_test ?_
  | with_reducible refine r_B ?_
  | with_reducible refine r_bl ?_
  | with_reducible refine r_bl2 ?_
  | with_reducible refine r_yes ?_
  | with_reducible refine r_wipe (by rfl) ?_
  | with_reducible refine r_rfl ?_
  | ((with_reducible refine' r_eqA ?rdh ?_); (case rdh => rfl))
  | with_reducible refine r_and ?_
  | with_reducible refine r_or ?_
  | with_reducible refine r_not ?_
  | with_reducible refine r_andV ?_
  | with_reducible refine r_orV ?_
  | with_reducible refine r_notV ?_
  | with_reducible refine r_ifE ?_
  | with_reducible refine r_nil ?_
  | with_reducible refine r_cons ?_
  | with_reducible refine r_tup ?_
  | with_reducible refine r_lst ?_
  | with_reducible refine r_CB ?_
  | with_reducible refine r_call ?_
  | with_reducible refine r_bm ?_
  | with_reducible refine r_bm0 ?_
  | with_reducible refine r_int ?_
  | with_reducible refine r_i2 ?_
  | with_reducible refine r_i1 ?_
  | with_reducible refine r_gcons ?_
  | with_reducible refine r_gnil ?_
  | with_reducible refine r_gsub ?_
  | with_reducible refine iteT ?_
  | with_reducible refine iteF ?_
  | with_reducible refine ite_notT ?_
  | with_reducible refine ite_notF ?_
  | with_reducible refine r_isi_ib ?_
  | with_reducible refine r_isi_ii ?_
  | with_reducible refine r_isi_bb ?_
  | with_reducible refine r_isi_nb ?_
  | with_reducible refine r_isi_nt ?_
  | ((with_reducible refine' r_isi_ll ?rdh ?_); (case rdh => first | assumption | exact upd_same))
  | ((with_reducible refine' r_isi_tt ?rdh ?_); (case rdh => first | assumption | exact upd_same))
  | with_reducible refine r_sl ?_
  | with_reducible refine r_noPart ?_
  | with_reducible refine r_part ?_
  | with_reducible refine r_int1 ?_
  | with_reducible refine r_tru ?_
  | with_reducible refine r_ckw ?_
  | with_reducible refine r_lc ?_
  | with_reducible refine r_lc2 ?_
  | with_reducible refine r_forS ?_
  | with_reducible refine r_iR1 ?_
  | with_reducible refine r_iR2 ?_
  | with_reducible refine r_iL ?_
  | ((with_reducible refine' r_lenL ?rdh ?_); (case rdh => walk_at "sq"))
  | ((with_reducible refine' r_ixL ?rdh ?rda ?_); (case rdh => walk_at "sq"); (case rda => walk_at "at"))
  | ((with_reducible refine' r_ixT ?rdh ?rda ?_); (case rdh => walk_at "sq"); (case rda => walk_at "at")))
local macro_rules | `(tactic| walk_at "sq") => `(tactic| first
  | assumption
  | exact SqL.of (by assumption)
  | exact SqL.of upd_same
  | exact SqT.of (by assumption)
  | exact SqT.of upd_same)
local macro_rules | `(tactic| walk_at "sml") => `(tactic| (rw [sizeLine_eq]; simp))
local macro_rules | `(tactic| walk_at "at") => `(tactic| first | assumption | rfl)
local macro_rules | `(tactic| walk_at "rd") => `(tactic| repeat walk_at "rd1")
local macro_rules | `(tactic| walk_at "rd1") => `(tactic| first
  | with_reducible refine r_addS ?_
  | with_reducible refine r_lenS ?_
  | with_reducible refine r_eqS ?_
  | with_reducible refine r_neS ?_
  | with_reducible refine r_iES ?_
  | with_reducible refine r_iES1 ?_
  | with_reducible refine r_iEL ?_)
section
variable {w : World} {P : Program} {base : Heap} {K : PySem.W.Frag} {mg : Str → Option Value}
def sp_continues : Sp := fun vs H Q _ => ∃ (a : Addr) (L : List (Int × Int)) (p c : Nat), vs = [.ref a, .int p, .str (S [c])] ∧ LT bV H a L ∧ L.length ≤ 26 ∧ Q (.bl (contB L p c)) H
theorem mk_continues {f : Addr} {fd : FuncData} (T : Txt mg) (F : Fun K "_continues" "_continues" s_continues f fd) (m : mg "_continues" = some (.ref f)) (b : Binds K fd ["layout", "place", "character"] []) :
    Cal P w K mg base "_continues" 1 f fd ["layout", "place", "character"] sp_continues := by
  refine ⟨F.ok sc_continues (fun vs H Q E h => ?_) (fun cdv A outer s H vs Q E hr h => ?_), m, F.kp, b⟩
  · obtain ⟨a, L, p, c, rfl, _⟩ := h
    rfl
  obtain ⟨a, L, p, c, rfl, ⟨ts, ha, ht⟩, hL, q⟩ := h
  refine ⟨_, (pss_cons (ps_if (pt_not (pt_truthN (pv 0)))
      (pss_one (ps_ret pe_bl))
      pss_nil) (pss_cons (ps_asg (pe_ix (show IxR _ (rIxL K) from ix_list) (pv 0) (pe_un un_neg pe_int) (fun _ _ => rfl)) (pg_tup rfl (pgs_cons (pg_name (i := 3) sc_continues.nd rfl (Or.inl rfl)) (pgs_cons (pg_name (i := 4) sc_continues.nd rfl (Or.inl rfl)) pgs_nil)))) (pss_one (ps_ret (pe_and (pe_cmpR op_eq (pe_op op_add (pv 3) (pv 4)) (pv 1) (nomark _)) (pe_one (pe_cmpR op_eq (pv 2) (pe_ix ix_str (pe_gstr rfl T.LETTERS) (pe_op op_sub (pe_callB (show CallR _ _ (fun xs H Q => ∃ p ys, xs = [V.ref p] ∧ (SqL K H p ys ∨ SqT K H p ys) ∧ Q (.int ys.length) H) from call_len_seq) (by rfl) T.len PySem.boot_len (pa_cons (pv 0) pa_nil)) pe_int) (fun _ _ => rfl)) (nomark _)))))))), ?_⟩
  try dsimp only [cxOf, Cx.nox, Cx.wish]
  rw [show start ["layout", "place", "character", "start", "length"] [V.ref a, V.int p, V.str (S [c])] = [some (V.ref a), some (V.int p), some (V.str (S [c])), none, none] from rfl]
  refine r_seq ?_
  walk_at "rd"
  refine r_truL (SqL.of ha) ?_
  by_cases he : L = []
  · subst he
    have : ts = [] := List.eq_nil_of_length_eq_zero ht.1
    subst this
    walk_at "rd"
    exact q
  obtain ⟨M, ⟨st, ln⟩, rfl⟩ := snoc_of he
  obtain ⟨ts0, tl, rfl, ht0, htl⟩ := ht.unsnoc
  have at_l : atI ((ts0 ++ [tl]).map V.ref) (-1) = some (.ref tl) := by rw [List.map_append]; exact atI_last _ _
  have hM : M.length + 1 ≤ 26 := by simpa using hL
  have hl0 := ht0.1
  rw [show (!(List.map V.ref (ts0 ++ [tl])).isEmpty) = true by simp]
  walk_at "rd"
  refine r_gtup (SqT.of htl) rfl ?_
  walk_at "rd"
  rw [contB_snoc] at q
  refine r_ite (fun c1 => ?_) (fun c1 => ?_)
  · walk_at "rd"
    rw [List.length_map, List.length_append, List.length_singleton, hl0, show ((M.length + 1 : Nat) : Int) - 1 = (M.length : Int) by omega]
    refine r_ixS (abc_at (by omega)) (by rw [abc_len, sizeLine_eq]; decide) ?_
    walk_at "rd"
    rw [show (⟨#[97 + M.length]⟩ : Str) = S [97 + M.length] from rfl, show decide (S [c] = S [97 + M.length]) = decide (c = 97 + M.length) from decide_eq_decide.mpr (by rw [S_inj]; simp)]
    rw [decide_eq_true c1, Bool.true_and] at q
    exact q
  · rw [decide_eq_false c1, Bool.false_and] at q
    exact q
def sp_begins : Sp := fun vs H Q _ => ∃ (a : Addr) (L : List (Int × Int)) (c : Nat), vs = [.ref a, .str (S [c])] ∧ LT bV H a L ∧ L.length ≤ 26 ∧ Q (.bl (beginB L c)) H
theorem mk_begins {f : Addr} {fd : FuncData} (T : Txt mg) (F : Fun K "_begins" "_begins" s_begins f fd) (m : mg "_begins" = some (.ref f)) (b : Binds K fd ["layout", "character"] []) :
    Cal P w K mg base "_begins" 1 f fd ["layout", "character"] sp_begins := by
  refine ⟨F.ok sc_begins (fun vs H Q E h => ?_) (fun cdv A outer s H vs Q E hr h => ?_), m, F.kp, b⟩
  · obtain ⟨a, L, c, rfl, _⟩ := h
    rfl
  obtain ⟨a, L, c, rfl, ⟨ts, ha, ht⟩, hL, q⟩ := h
  have hl := ht.1
  refine ⟨_, (pss_one (ps_ret (pe_and (pe_cmpR op_lt (pe_callB (show CallR _ _ (fun xs H Q => ∃ p ys, xs = [V.ref p] ∧ (SqL K H p ys ∨ SqT K H p ys) ∧ Q (.int ys.length) H) from call_len_seq) (by rfl) T.len PySem.boot_len (pa_cons (pv 0) pa_nil)) (pe_callB call_len_str (by rfl) T.len PySem.boot_len (pa_cons (pe_gstr rfl T.LETTERS) pa_nil)) (nomark _)) (pe_one (pe_cmpR op_eq (pv 1) (pe_ix ix_str (pe_gstr rfl T.LETTERS) (pe_callB (show CallR _ _ (fun xs H Q => ∃ p ys, xs = [V.ref p] ∧ (SqL K H p ys ∨ SqT K H p ys) ∧ Q (.int ys.length) H) from call_len_seq) (by rfl) T.len PySem.boot_len (pa_cons (pv 0) pa_nil)) (fun _ _ => rfl)) (nomark _)))))), ?_⟩
  try dsimp only [cxOf, Cx.nox, Cx.wish]
  rw [show start ["layout", "character"] [V.ref a, V.str (S [c])] = [some (V.ref a), some (V.str (S [c]))] from rfl]
  walk_at "rd"
  refine ⟨by rw [abc_len, sizeLine_eq]; decide, ?_⟩
  rw [abc_len, List.length_map, hl]
  dsimp only
  walk_at "rd"
  unfold beginB at q
  refine r_ite (fun c1 => ?_) (fun c1 => ?_)
  · walk_at "rd"
    rw [List.length_map, hl]
    refine r_ixS (abc_at (by omega)) (by rw [abc_len, sizeLine_eq]; decide) ?_
    walk_at "rd"
    rw [show (⟨#[97 + L.length]⟩ : Str) = S [97 + L.length] from rfl, show decide (S [c] = S [97 + L.length]) = decide (c = 97 + L.length) from decide_eq_decide.mpr (by rw [S_inj]; simp)]
    rw [decide_eq_true (show L.length < 26 by omega), Bool.true_and] at q
    exact q
  · rw [decide_eq_false (show ¬ L.length < 26 by omega), Bool.false_and] at q
    exact q
end
end Pf

namespace Pf
open PySem L2
local macro_rules | `(tactic| walk_at "rd1") => `(tactic| first
  | with_reducible refine r_seqA ?_
  | with_reducible refine r_seqD ?_
  | with_reducible refine r_seqF ?_
  | with_reducible refine r_seqN ?_
  | with_reducible refine r_asg ?_
  | with_reducible refine r_drop ?_
  | with_reducible refine r_ret ?_
  | with_reducible refine r_ifS ?_
  | ((with_reducible refine r_next ?_); try dsimp only)
  | ((with_reducible refine r_name ?_); try dsimp only [List.set_cons_succ, List.set_cons_zero, wipe])
  | ((with_reducible refine' r_var ?rdh ?_); (case rdh => rfl))
  | with_reducible refine r_c ?_
  | with_reducible refine r_op ?_
  | with_reducible refine r_un ?_
  | with_reducible refine r_I0 ?_
  | ((with_reducible refine r_I ?_ ?_); (· first | decide | exact Or.inl (by decide) | exact Or.inr (by decide) | (show _ ∧ _; constructor <;> decide) | (show (0:Int) < _; omega) | (show CDiv _ _; unfold CDiv; omega) ))
  | with_reducible refine r_U ?_
  | with_reducible refine r_eqI ?_
  | with_reducible refine r_neI ?_
  | with_reducible refine r_eqB ?_
  | with_reducible refine r_neB ?_
  | with_reducible refine r_test ?_
  | with_reducible refine r_B ?_
  | with_reducible refine r_bl ?_
  | with_reducible refine r_bl2 ?_
  | with_reducible refine r_yes ?_
  | with_reducible refine r_wipe (by rfl) ?_
  | with_reducible refine r_rfl ?_
  | ((with_reducible refine' r_eqA ?rdh ?_); (case rdh => rfl))
  | with_reducible refine r_and ?_
  | with_reducible refine r_or ?_
  | with_reducible refine r_not ?_
  | with_reducible refine r_andV ?_
  | with_reducible refine r_orV ?_
  | with_reducible refine r_notV ?_
  | with_reducible refine r_ifE ?_
  | with_reducible refine r_nil ?_
  | with_reducible refine r_cons ?_
  | with_reducible refine r_tup ?_
  | with_reducible refine r_lst ?_
  | with_reducible refine r_CB ?_
  | with_reducible refine r_call ?_
  | with_reducible refine r_bm ?_
  | with_reducible refine r_bm0 ?_
  | with_reducible refine r_int ?_
  | with_reducible refine r_i2 ?_
  | with_reducible refine r_i1 ?_
  | with_reducible refine r_gcons ?_
  | with_reducible refine r_gnil ?_
  | with_reducible refine r_gsub ?_
  | with_reducible refine iteT ?_
  | with_reducible refine iteF ?_
  | with_reducible refine ite_notT ?_
  | with_reducible refine ite_notF ?_
  | with_reducible refine r_isi_ib ?_
  | with_reducible refine r_isi_ii ?_
  | with_reducible refine r_isi_bb ?_
  | with_reducible refine r_isi_nb ?_
  | with_reducible refine r_isi_nt ?_
  | ((with_reducible refine' r_isi_ll ?rdh ?_); (case rdh => first | assumption | exact upd_same))
  | ((with_reducible refine' r_isi_tt ?rdh ?_); (case rdh => first | assumption | exact upd_same))
  | with_reducible refine r_sl ?_
  | with_reducible refine r_noPart ?_
  | with_reducible refine r_part ?_
  | with_reducible refine r_int1 ?_
  | with_reducible refine r_tru ?_
  | with_reducible refine r_ckw ?_
  | with_reducible refine r_lc ?_
  | with_reducible refine r_lc2 ?_
  | with_reducible refine r_forS ?_
  | with_reducible refine r_iR1 ?_
  | with_reducible refine r_iR2 ?_
  | with_reducible refine r_iL ?_
  | ((with_reducible refine' r_lenL ?rdh ?_); (case rdh => walk_at "sq"))
  | ((with_reducible refine' r_ixL ?rdh ?rda ?_); (case rdh => walk_at "sq"); (case rda => walk_at "at"))
  | ((with_reducible refine' r_ixT ?rdh ?rda ?_); (case rdh => walk_at "sq"); (case rda => walk_at "at")))
local macro_rules | `(tactic| walk_at "sq") => `(tactic| first
  | assumption
  | exact SqL.of (by assumption)
  | exact SqL.of upd_same
  | exact SqT.of (by assumption)
  | exact SqT.of upd_same)
local macro_rules | `(tactic| walk_at "sml") => `(tactic| (rw [sizeLine_eq]; simp))
local macro_rules | `(tactic| walk_at "at") => `(tactic| first | assumption | rfl)
local macro_rules | `(tactic| walk_at "rd") => `(tactic| repeat walk_at "rd1")
local macro_rules | `(tactic| walk_at "rd1") => `(tactic| first
  | with_reducible refine r_addS ?_
  | with_reducible refine r_lenS ?_
  | with_reducible refine r_eqS ?_
  | with_reducible refine r_neS ?_
  | with_reducible refine r_iES ?_
  | with_reducible refine r_iES1 ?_
  | with_reducible refine r_iEL ?_)
section
variable {w : World} {P : Program} {base : Heap} {K : PySem.W.Frag} {mg : Str → Option Value}
def sp_parse (K : PySem.W.Frag) (C : Addr) : Sp := fun vs H Q E => ∃ t : List Nat, vs = [.str (S t)] ∧ t.length ≤ 200 ∧
  (∀ (L : List (Int × Int)) (p r : Addr) (H' : Hp), stF t t.length = some L → Same H H' → H' p = some (.tup [.int (t.length : Nat), .ref r]) → LT bV H' r L → Q (.ref p) H') ∧
  (∀ (i : Nat) (d : Addr) (H' : Hp), FaultAt t i → Same H H' → H d = none → H' d = some (.xd [("place", .int (i : Nat))]) → E (.ref C) (some d) H')
theorem mk_parse_layout {f f1 f2 C fI : Addr} {fd fd1 fd2 fdI : FuncData} (T : Txt mg) (F : Fun K "parse_layout" "parse_layout" s_parse_layout f fd) (m : mg "parse_layout" = some (.ref f)) (b : Binds K fd ["text"] [])
    (C_continues : Cal P w K mg base "_continues" 1 f1 fd1 ["layout", "place", "character"] sp_continues)
    (C_begins : Cal P w K mg base "_begins" 1 f2 fd2 ["layout", "character"] sp_begins)
    (X_TextError : XCal P w K mg base "TextError" C 1 fI fdI ["self", "place"] (sp_exc1 C "place")) :
    CalX P w K mg base "parse_layout" 3 f fd ["text"] (sp_parse K C) := by
  refine ⟨F.okX sc_parse_layout (fun vs H Q E h => ?_) (fun cdv A outer s H vs Q E hr h => ?_), m, F.kp, b⟩
  · obtain ⟨t, rfl, _⟩ := h
    rfl
  obtain ⟨t, rfl, hn, q, e⟩ := h
  refine ⟨_, (pss_cons (ps_set (i := 1) sc_parse_layout.nd rfl (Or.inl rfl) (pe_lst pa_nil)) (pss_cons (ps_for (passes_of rfl) rfl (pi_enumS rfl T.enumerate (pa_cons (pv 0) pa_nil)) (pg_tup rfl (pgs_cons (pg_name (i := 2) sc_parse_layout.nd rfl (Or.inl rfl)) (pgs_cons (pg_name (i := 3) sc_parse_layout.nd rfl (Or.inl rfl)) pgs_nil)))
      (pss_cons (ps_if (pt_cmpR op_eq (pv 3) (pe_gstr rfl T.FREE) (nomark _))
      (pss_one ps_continue)
      pss_nil) (pss_one (ps_if (pt_val (pe_call C_continues.ok (hr.mono (by first | decide | omega)) rfl C_continues.mg C_continues.kp C_continues.b .nil pass0 (pa_cons (pv 1) (pa_cons (pv 2) (pa_cons (pv 3) pa_nil)))))
      (pss_cons (ps_asg (pe_ix (show IxR _ (rIxL K) from ix_list) (pv 1) (pe_un un_neg pe_int) (fun _ _ => rfl)) (pg_tup rfl (pgs_cons (pg_name (i := 4) sc_parse_layout.nd rfl (Or.inl rfl)) (pgs_cons (pg_name (i := 5) sc_parse_layout.nd rfl (Or.inl rfl)) pgs_nil)))) (pss_one (ps_asg (pe_tup (pa_cons (pv 4) (pa_cons (pe_op op_add (pv 5) pe_int) pa_nil))) (pg_sub (pv 1) (pe_un un_neg pe_int) set_list))))
      (pss_one (ps_if (pt_val (pe_call C_begins.ok (hr.mono (by first | decide | omega)) rfl C_begins.mg C_begins.kp C_begins.b .nil pass0 (pa_cons (pv 1) (pa_cons (pv 3) pa_nil))))
      (pss_one (ps_expr (pe_bm PySem.F.plainAttrs_list PySem.F.slot_list_append PySem.F.type_list_append mt_append (pv 1) (pa_cons (pe_tup (pa_cons (pv 2) (pa_cons pe_int pa_nil))) pa_nil))))
      (pss_one (ps_raise rfl (takes_of rfl rfl rfl rfl) (pmk_oex X_TextError.T X_TextError.iC X_TextError.tI X_TextError.ok (hr.mono (by first | decide | omega)) X_TextError.b .nil pass0 rfl X_TextError.m (pa_cons (pv 2) pa_nil)))))))))) (pss_one (ps_ret (pe_tup (pa_cons (pe_callB call_len_str (by rfl) T.len PySem.boot_len (pa_cons (pv 0) pa_nil)) (pa_cons (pv 1) pa_nil))))))), ?_⟩
  try dsimp only [cxOf, Cx.nox, Cx.wish]
  rw [show start ["text", "layout", "place", "character", "start", "length"] [V.str (S t)] = [some (V.str (S t)), none, none, none, none, none] from rfl]
  walk_at "rd"
  refine ⟨by walk_at "sml", fun D nD => ?_⟩
  refine upd_new nD fun H1 hD s1 => ?_
  walk_at "rd"
  have hsz : (S t).cps.size = t.length := S_len t
  refine for_enumS (x := S t) (fun i σ H' => ∃ (x2 x3 x4 x5 : Option V) (ts : List Addr) (L : List (Int × Int)), σ = [some (.str (S t)), some (.ref D), x2, x3, x4, x5] ∧ Same H H' ∧ H' D = some (.lst (ts.map V.ref)) ∧ TL bV H' ts L ∧ i ≤ t.length ∧ stF t i = some L)
    ⟨none, none, none, none, [], [], rfl, s1, hD, .nil, Nat.zero_le _, rfl⟩ ?_ ?_
  · rintro i c σ H2 U hc ⟨x2, x3, x4, x5, ts, L, rfl, s2, hD2, ht, hi, hst⟩ nU
    have hc' : t[i]? = some c := by simpa using hc
    have hi2 : i < t.length := by
      by_cases z : i < t.length
      · exact z
      · rw [List.getElem?_eq_none (by omega)] at hc'; cases hc'
    have hcD : t.getD i 0 = c := by rw [List.getD_eq_getElem?_getD, hc']; rfl
    have g := good_st (Nat.le_of_lt hi2) hst
    refine upd_new nU fun H3 hU s3 => ?_
    refine r_gtup (SqT.of hU) rfl ?_
    walk_at "rd"
    refine r_seq ?_
    walk_at "rd"
    rw [dot_txt, show (⟨#[c]⟩ : Str) = S [c] from rfl, show decide (S [c] = S [46]) = decide (c = 46) from decide_eq_decide.mpr (by rw [S_inj]; simp)]
    have hD3 := s3 _ _ hD2
    have ht3 := ht.same s3
    refine r_ite (fun c1 => ?_) (fun c1 => ?_)
    · refine r_cont ?_
      exact ⟨_, _, _, _, ts, L, rfl, s2.trans s3, hD3, ht3, hi2, by rw [stF_succ hst, hcD, c1]; rfl⟩
    walk_at "rd"
    refine ⟨D, L, i, c, rfl, ⟨ts, hD3, ht3⟩, g.few, ?_⟩
    walk_at "rd"
    refine r_iteB (fun c2 => ?_) (fun c2 => ?_)
    · obtain ⟨M, st, ln, rfl, hs, hcM, hstep⟩ := stepF_cont c1 c2
      obtain ⟨ts0, tl, rfl, ht0, htl⟩ := ht3.unsnoc
      have at_l : atI ((ts0 ++ [tl]).map V.ref) (-1) = some (.ref tl) := by rw [List.map_append]; exact atI_last _ _
      walk_at "rd"
      refine r_gtup (SqT.of htl) rfl ?_
      walk_at "rd"
      refine ⟨by walk_at "sml", fun t2 nt => ?_⟩
      refine upd_new nt fun H4 ht4 s4 => ?_
      dsimp only
      walk_at "rd"
      refine r_setL (s4 _ _ hD3) (j := ts0.length) ?_ fun H5 hD5 u5 => ?_
      · rw [List.length_map, List.length_append]
        exact ixN_last _
      · rw [set_last] at hD5
        exact ⟨_, _, _, _, ts0 ++ [t2], M ++ [(st, ln + 1)], rfl, u5.new nD (s2.trans (s3.trans s4)), hD5, ((ht0.same s4).but u5 (s4 _ _ hD3)).snoc (u5 _ _ (ne_of ht4 (s4 _ _ hD3) (by intro z; cases z)) ht4), hi2, by rw [stF_succ hst, hcD, hstep]⟩
    · walk_at "rd"
      refine ⟨D, L, c, rfl, ⟨ts, hD3, ht3⟩, g.few, ?_⟩
      walk_at "rd"
      refine r_iteB (fun c3 => ?_) (fun c3 => ?_)
      · walk_at "rd"
        refine ⟨ty_lst hD3, ?_⟩
        walk_at "rd"
        refine ⟨by walk_at "sml", fun t2 nt => ?_⟩
        refine upd_new nt fun H4 ht4 s4 => ?_
        walk_at "rd"
        refine r_app (s4 _ _ hD3) (by rw [ht3.len, sizeLine_eq]; have := g.few; omega) fun H5 hD5 u5 => ?_
        dsimp only
        exact ⟨_, _, _, _, ts ++ [t2], L ++ [((i : Int), 1)], rfl, u5.new nD (s2.trans (s3.trans s4)), by rw [hD5, List.map_append]; rfl, ((ht3.same s4).but u5 (s4 _ _ hD3)).snoc (u5 _ _ (ne_of ht4 (s4 _ _ hD3) (by intro z; cases z)) ht4), hi2, by rw [stF_succ hst, hcD, stepF_else c1 c2, if_pos c3]⟩
      · refine r_mk1 rfl (by omega) fun d H4 s4 nd hd => ?_
        have nd' : H d = none := by
          cases z : H d with
          | none => rfl
          | some o => rw [s3 _ _ (s2 _ _ z)] at nd; cases nd
        refine e i d H4 ⟨hi2, ⟨L, hst⟩, ?_⟩ (s2.trans (s3.trans s4)) nd' hd
        rw [stF_succ hst, hcD, stepF_else c1 c2, if_neg (by rw [c3]; decide)]
  · rintro σ H2 ⟨x2, x3, x4, x5, ts, L, rfl, s2, hD2, ht, hi, hst⟩
    rw [hsz] at hst
    walk_at "rd"
    refine ⟨by rw [S_len, sizeLine_eq]; omega, ?_⟩
    rw [S_len]
    dsimp only
    walk_at "rd"
    refine ⟨by walk_at "sml", fun p np => ?_⟩
    refine upd_new np fun H3 hp s3 => ?_
    exact q L p D H3 hst (s2.trans s3) hp ⟨ts, s3 _ _ hD2, ht.same s3⟩
end
end Pf

namespace Pf
open PySem L2
local macro_rules | `(tactic| walk_at "rd1") => `(tactic| first
  | with_reducible refine r_seqA ?_
  | with_reducible refine r_seqD ?_
  | with_reducible refine r_seqF ?_
  | with_reducible refine r_seqN ?_
  | with_reducible refine r_asg ?_
  | with_reducible refine r_drop ?_
  | with_reducible refine r_ret ?_
  | with_reducible refine r_ifS ?_
  | ((with_reducible refine r_next ?_); try dsimp only)
  | ((with_reducible refine r_name ?_); try dsimp only [List.set_cons_succ, List.set_cons_zero, wipe])
  | ((with_reducible refine' r_var ?rdh ?_); (case rdh => rfl))
  | with_reducible refine r_c ?_
  | with_reducible refine r_op ?_
  | with_reducible refine r_un ?_
  | with_reducible refine r_I0 ?_
  | ((with_reducible refine r_I ?_ ?_); (· first | decide | exact Or.inl (by decide) | exact Or.inr (by decide) | (show _ ∧ _; constructor <;> decide) | (show (0:Int) < _; omega) | (show CDiv _ _; unfold CDiv; omega) ))
  | with_reducible refine r_U ?_
  | with_reducible refine r_eqI ?_
  | with_reducible refine r_neI ?_
  | with_reducible refine r_eqB ?_
  | with_reducible refine r_neB ?_
  | with_reducible refine r_test ?_
  | with_reducible refine r_B ?_
  | with_reducible refine r_bl ?_
  | with_reducible refine r_bl2 ?_
  | with_reducible refine r_yes ?_
  | with_reducible refine r_wipe (by rfl) ?_
  | with_reducible refine r_rfl ?_
  | ((with_reducible refine' r_eqA ?rdh ?_); (case rdh => rfl))
  | with_reducible refine r_and ?_
  | with_reducible refine r_or ?_
  | with_reducible refine r_not ?_
  | with_reducible refine r_andV ?_
  | with_reducible refine r_orV ?_
  | with_reducible refine r_notV ?_
  | with_reducible refine r_ifE ?_
  | with_reducible refine r_nil ?_
  | with_reducible refine r_cons ?_
  | with_reducible refine r_tup ?_
  | with_reducible refine r_lst ?_
  | with_reducible refine r_CB ?_
  | with_reducible refine r_call ?_
  | with_reducible refine r_bm ?_
  | with_reducible refine r_bm0 ?_
  | with_reducible refine r_int ?_
  | with_reducible refine r_i2 ?_
  | with_reducible refine r_i1 ?_
  | with_reducible refine r_gcons ?_
  | with_reducible refine r_gnil ?_
  | with_reducible refine r_gsub ?_
  | with_reducible refine iteT ?_
  | with_reducible refine iteF ?_
  | with_reducible refine ite_notT ?_
  | with_reducible refine ite_notF ?_
  | with_reducible refine r_isi_ib ?_
  | with_reducible refine r_isi_ii ?_
  | with_reducible refine r_isi_bb ?_
  | with_reducible refine r_isi_nb ?_
  | with_reducible refine r_isi_nt ?_
  | ((with_reducible refine' r_isi_ll ?rdh ?_); (case rdh => first | assumption | exact upd_same))
  | ((with_reducible refine' r_isi_tt ?rdh ?_); (case rdh => first | assumption | exact upd_same))
  | with_reducible refine r_sl ?_
  | with_reducible refine r_noPart ?_
  | with_reducible refine r_part ?_
  | with_reducible refine r_int1 ?_
  | with_reducible refine r_tru ?_
  | with_reducible refine r_ckw ?_
  | with_reducible refine r_lc ?_
  | with_reducible refine r_lc2 ?_
  | with_reducible refine r_forS ?_
  | with_reducible refine r_iR1 ?_
  | with_reducible refine r_iR2 ?_
  | with_reducible refine r_iL ?_
  | ((with_reducible refine' r_lenL ?rdh ?_); (case rdh => walk_at "sq"))
  | ((with_reducible refine' r_ixL ?rdh ?rda ?_); (case rdh => walk_at "sq"); (case rda => walk_at "at"))
  | ((with_reducible refine' r_ixT ?rdh ?rda ?_); (case rdh => walk_at "sq"); (case rda => walk_at "at")))
local macro_rules | `(tactic| walk_at "sq") => `(tactic| first
  | assumption
  | exact SqL.of (by assumption)
  | exact SqL.of upd_same
  | exact SqT.of (by assumption)
  | exact SqT.of upd_same)
local macro_rules | `(tactic| walk_at "sml") => `(tactic| (rw [sizeLine_eq]; simp))
local macro_rules | `(tactic| walk_at "at") => `(tactic| first | assumption | rfl)
local macro_rules | `(tactic| walk_at "rd") => `(tactic| repeat walk_at "rd1")
local macro_rules | `(tactic| walk_at "rd1") => `(tactic| first
  | with_reducible refine r_addS ?_
  | with_reducible refine r_lenS ?_
  | with_reducible refine r_eqS ?_
  | with_reducible refine r_neS ?_
  | with_reducible refine r_iES ?_
  | with_reducible refine r_iES1 ?_
  | with_reducible refine r_iEL ?_)
section
variable {w : World} {P : Program} {base : Heap} {K : PySem.W.Frag} {mg : Str → Option Value}
def sp_fault : Sp := fun vs H Q _ => ∃ t : List Nat, vs = [.str (S t)] ∧ t.length ≤ 200 ∧ (∀ L, stF t t.length = some L → Q (.int (-1)) H) ∧ (∀ i : Nat, FaultAt t i → Q (.int i) H)
theorem mk_law_fault {f : Addr} {fd : FuncData} (T : Txt mg) (F : Fun K "_law_fault" "_law_fault" s_law_fault f fd) (m : mg "_law_fault" = some (.ref f)) (b : Binds K fd ["text"] []) :
    Cal P w K mg base "_law_fault" 1 f fd ["text"] sp_fault := by
  refine ⟨F.ok sc_law_fault (fun vs H Q E h => ?_) (fun cdv A outer s H vs Q E hr h => ?_), m, F.kp, b⟩
  · obtain ⟨t, rfl, _⟩ := h
    rfl
  obtain ⟨t, rfl, hn, q, e⟩ := h
  refine ⟨_, (pss_cons (ps_set (i := 1) sc_law_fault.nd rfl (Or.inl rfl) pe_int) (pss_cons (ps_for PassesOwn.never rfl (pi_range1 rfl T.range (pa_cons (pe_callB call_len_str (by rfl) T.len PySem.boot_len (pa_cons (pv 0) pa_nil)) pa_nil)) (pg_name (i := 2) sc_law_fault.nd rfl (Or.inl rfl))
      (pss_cons (ps_set (i := 3) sc_law_fault.nd rfl (Or.inl rfl) (pe_and (pe_cmpR op_gt (pv 2) pe_int (nomark _)) (pe_and (pe_cmpR op_gt (pv 1) pe_int (nomark _)) (pe_and (pe_cmpR op_eq (pe_ix ix_str (pv 0) (pe_op op_sub (pv 2) pe_int) (fun _ _ => rfl)) (pe_ix ix_str (pv 0) (pv 2) (fun _ _ => rfl)) (nomark _)) (pe_one (pe_cmpR op_eq (pe_ix ix_str (pv 0) (pv 2) (fun _ _ => rfl)) (pe_ix ix_str pe_str (pe_op op_sub (pv 1) pe_int) (fun _ _ => rfl)) (nomark _))))))) (pss_one (ps_if (PW.pt (pw_and (pt_cmpR op_ne (pe_ix ix_str (pv 0) (pv 2) (fun _ _ => rfl)) pe_str (nomark _)) (pw_and1 (pt_not (pt_val (pv 3))))))
      (pss_one (ps_if (PW.pt (pw_and (pt_cmpR op_lt (pv 1) pe_int (nomark _)) (pw_and1 (pt_cmpR op_eq (pe_ix ix_str (pv 0) (pv 2) (fun _ _ => rfl)) (pe_ix ix_str pe_str (pv 1) (fun _ _ => rfl)) (nomark _)))))
      (pss_one (ps_set (i := 1) sc_law_fault.nd rfl (Or.inl rfl) (pe_op op_add (pv 1) pe_int)))
      (pss_one (ps_ret (pv 2)))))
      pss_nil)))) (pss_one (ps_ret (pe_un un_neg pe_int))))), ?_⟩
  try dsimp only [cxOf, Cx.nox, Cx.wish]
  rw [show start ["text", "many", "at", "again"] [V.str (S t)] = [some (V.str (S t)), none, none, none] from rfl]
  walk_at "rd"
  refine ⟨by rw [S_len, sizeLine_eq]; omega, ?_⟩
  rw [S_len]
  refine r_nil ?_
  walk_at "rd"
  refine And.intro (by omega) ⟨by omega, ?_⟩
  rw [Int.toNat_natCast]
  refine for_range (lo := 0) (n := t.length) (fun i σ H' => ∃ (x2 x3 : Option V) (L : List (Int × Int)), σ = [some (.str (S t)), some (.int (L.length : Nat)), x2, x3] ∧ H' = H ∧ stF t i = some L) ?_ ?_ ?_
  · exact ⟨none, none, [], rfl, rfl, rfl⟩
  · rintro i σ H2 hi ⟨x2, x3, L, rfl, rfl, hst⟩
    rw [Int.zero_add]
    have g := good_st (Nat.le_of_lt hi) hst
    obtain ⟨c, hcD⟩ : ∃ c, t.getD i 0 = c := ⟨_, rfl⟩
    have hc' : t[i]? = some c := by rw [← hcD, List.getD_eq_getElem?_getD, List.getElem?_eq_getElem hi]; rfl
    have hsz : (S t).length ≤ sizeLine := by rw [S_len, sizeLine_eq]; omega
    have at_i : atI (S t).cps.toList (i : Int) = some c := at_nat (by simpa using hc')
    refine r_name ?_
    dsimp only [List.set_cons_succ, List.set_cons_zero]
    refine r_seqG fun R key => ?_
    have fin : ∀ b : Bool, b = contB L i c → R [some (.str (S t)), some (.int (L.length : Nat)), some (.int (i : Nat)), some (.bl b)] H2 := by
      rintro _ rfl
      refine key _ _ ?_
      walk_at "rd"
      refine r_ixS at_i hsz ?_
      walk_at "rd"
      rw [dot_txt, dS]
      refine r_iteN (fun c1 => ?_) (fun c1 => ?_)
      · cases hcb : contB L i c
        · have hst2 : stF t (i + 1) = _ := (stF_succ hst).trans (by rw [hcD, stepF_else c1 hcb])
          walk_at "rd"
          refine r_ite (fun c2 => ?_) (fun c2 => ?_)
          · have c2' : L.length < 26 := by omega
            walk_at "rd"
            refine r_ixS at_i hsz ?_
            walk_at "rd"
            refine r_ixS (abc_at c2') (by rw [abc_len, sizeLine_eq]; decide) ?_
            walk_at "rd"
            rw [dS]
            refine r_ite (fun c3 => ?_) (fun c3 => ?_)
            · walk_at "rd"
              refine ⟨some (.int (i : Nat)), some (.bl false), L ++ [((i : Int), 1)], by simp, rfl, ?_⟩
              rw [hst2, if_pos (by unfold beginB; rw [decide_eq_true c2', decide_eq_true c3]; rfl)]
            · walk_at "rd"
              refine e i ⟨hi, ⟨L, hst⟩, ?_⟩
              rw [hst2, if_neg (by unfold beginB; rw [decide_eq_false c3]; simp)]
          · walk_at "rd"
            refine e i ⟨hi, ⟨L, hst⟩, ?_⟩
            rw [hst2, if_neg (by unfold beginB; rw [decide_eq_false (by omega)]; simp)]
        · obtain ⟨M, st, ln, rfl, hs, hcM, hstep⟩ := stepF_cont c1 hcb
          walk_at "rd"
          exact ⟨some (.int (i : Nat)), some (.bl true), M ++ [(st, ln + 1)], by simp, rfl, by rw [stF_succ hst, hcD, hstep]⟩
      · walk_at "rd"
        exact ⟨some (.int (i : Nat)), some (.bl (contB L i c)), L, rfl, rfl, by rw [stF_succ hst, hcD, c1]; rfl⟩
    have ag := again_iff g c hcD
    walk_at "rd"
    refine r_ite (fun c1 => ?_) (fun c1 => ?_)
    · walk_at "rd"
      refine r_ite (fun c2 => ?_) (fun c2 => ?_)
      · have at_p : atI (S t).cps.toList ((i : Int) - 1) = some (t.getD (i - 1) 0) := by
          rw [show (i : Int) - 1 = ((i - 1 : Nat) : Int) by omega]
          exact at_nat (by rw [List.getD_eq_getElem?_getD]; simp [show i - 1 < t.length by omega])
        walk_at "rd"
        refine r_ixS at_p hsz ?_
        walk_at "rd"
        refine r_ixS at_i hsz ?_
        walk_at "rd"
        rw [dS]
        refine r_ite (fun c3 => ?_) (fun c3 => ?_)
        · walk_at "rd"
          refine r_ixS at_i hsz ?_
          walk_at "rd"
          have hl1 : L.length - 1 < 26 := by have := g.few; omega
          rw [show (L.length : Int) - 1 = ((L.length - 1 : Nat) : Int) by omega]
          refine r_ixS (abc_at hl1) (by rw [abc_len, sizeLine_eq]; decide) ?_
          walk_at "rd"
          rw [dS]
          refine fin _ ?_
          rw [ag, decide_eq_true (show 0 < i by omega), decide_eq_true (show 0 < L.length by omega), decide_eq_true c3]
          simp only [Bool.true_and, Bool.and_self]
          exact Iff.mpr decide_eq_decide (by omega)
        · walk_at "rd"
          refine fin _ ?_
          rw [ag, decide_eq_false c3]
          simp
      · walk_at "rd"
        refine fin _ ?_
        rw [ag, decide_eq_false (show ¬ 0 < L.length by omega)]
        simp
    · walk_at "rd"
      refine fin _ ?_
      rw [ag, decide_eq_false (show ¬ 0 < i by omega)]
      simp
  · rintro σ H2 ⟨x2, x3, L, rfl, rfl, hst⟩
    walk_at "rd"
    exact q L hst
end
end Pf

namespace Pf
open PySem L2
local macro_rules | `(tactic| walk_at "rd1") => `(tactic| first
  | with_reducible refine r_seqA ?_
  | with_reducible refine r_seqD ?_
  | with_reducible refine r_seqF ?_
  | with_reducible refine r_seqN ?_
  | with_reducible refine r_asg ?_
  | with_reducible refine r_drop ?_
  | with_reducible refine r_ret ?_
  | with_reducible refine r_ifS ?_
  | ((with_reducible refine r_next ?_); try dsimp only)
  | ((with_reducible refine r_name ?_); try dsimp only [List.set_cons_succ, List.set_cons_zero, wipe])
  | ((with_reducible refine' r_var ?rdh ?_); (case rdh => rfl))
  | with_reducible refine r_c ?_
  | with_reducible refine r_op ?_
  | with_reducible refine r_un ?_
  | with_reducible refine r_I0 ?_
  | ((with_reducible refine r_I ?_ ?_); (· first | decide | exact Or.inl (by decide) | exact Or.inr (by decide) | (show _ ∧ _; constructor <;> decide) | (show (0:Int) < _; omega) | (show CDiv _ _; unfold CDiv; omega) ))
  | with_reducible refine r_U ?_
  | with_reducible refine r_eqI ?_
  | with_reducible refine r_neI ?_
  | with_reducible refine r_eqB ?_
  | with_reducible refine r_neB ?_
  | with_reducible refine r_test ?_
  | with_reducible refine r_B ?_
  | with_reducible refine r_bl ?_
  | with_reducible refine r_bl2 ?_
  | with_reducible refine r_yes ?_
  | with_reducible refine r_wipe (by rfl) ?_
  | with_reducible refine r_rfl ?_
  | ((with_reducible refine' r_eqA ?rdh ?_); (case rdh => rfl))
  | with_reducible refine r_and ?_
  | with_reducible refine r_or ?_
  | with_reducible refine r_not ?_
  | with_reducible refine r_andV ?_
  | with_reducible refine r_orV ?_
  | with_reducible refine r_notV ?_
  | with_reducible refine r_ifE ?_
  | with_reducible refine r_nil ?_
  | with_reducible refine r_cons ?_
  | with_reducible refine r_tup ?_
  | with_reducible refine r_lst ?_
  | with_reducible refine r_CB ?_
  | with_reducible refine r_call ?_
  | with_reducible refine r_bm ?_
  | with_reducible refine r_bm0 ?_
  | with_reducible refine r_int ?_
  | with_reducible refine r_i2 ?_
  | with_reducible refine r_i1 ?_
  | with_reducible refine r_gcons ?_
  | with_reducible refine r_gnil ?_
  | with_reducible refine r_gsub ?_
  | with_reducible refine iteT ?_
  | with_reducible refine iteF ?_
  | with_reducible refine ite_notT ?_
  | with_reducible refine ite_notF ?_
  | with_reducible refine r_isi_ib ?_
  | with_reducible refine r_isi_ii ?_
  | with_reducible refine r_isi_bb ?_
  | with_reducible refine r_isi_nb ?_
  | with_reducible refine r_isi_nt ?_
  | ((with_reducible refine' r_isi_ll ?rdh ?_); (case rdh => first | assumption | exact upd_same))
  | ((with_reducible refine' r_isi_tt ?rdh ?_); (case rdh => first | assumption | exact upd_same))
  | with_reducible refine r_sl ?_
  | with_reducible refine r_noPart ?_
  | with_reducible refine r_part ?_
  | with_reducible refine r_int1 ?_
  | with_reducible refine r_tru ?_
  | with_reducible refine r_ckw ?_
  | with_reducible refine r_lc ?_
  | with_reducible refine r_lc2 ?_
  | with_reducible refine r_forS ?_
  | with_reducible refine r_iR1 ?_
  | with_reducible refine r_iR2 ?_
  | with_reducible refine r_iL ?_
  | ((with_reducible refine' r_lenL ?rdh ?_); (case rdh => walk_at "sq"))
  | ((with_reducible refine' r_ixL ?rdh ?rda ?_); (case rdh => walk_at "sq"); (case rda => walk_at "at"))
  | ((with_reducible refine' r_ixT ?rdh ?rda ?_); (case rdh => walk_at "sq"); (case rda => walk_at "at")))
local macro_rules | `(tactic| walk_at "sq") => `(tactic| first
  | assumption
  | exact SqL.of (by assumption)
  | exact SqL.of upd_same
  | exact SqT.of (by assumption)
  | exact SqT.of upd_same)
local macro_rules | `(tactic| walk_at "sml") => `(tactic| (rw [sizeLine_eq]; simp))
local macro_rules | `(tactic| walk_at "at") => `(tactic| first | assumption | rfl)
local macro_rules | `(tactic| walk_at "rd") => `(tactic| repeat walk_at "rd1")
local macro_rules | `(tactic| walk_at "rd1") => `(tactic| first
  | with_reducible refine r_addS ?_
  | with_reducible refine r_lenS ?_
  | with_reducible refine r_eqS ?_
  | with_reducible refine r_neS ?_
  | with_reducible refine r_iES ?_
  | with_reducible refine r_iES1 ?_
  | with_reducible refine r_iEL ?_)
section
variable {w : World} {P : Program} {base : Heap} {K : PySem.W.Frag} {mg : Str → Option Value}
def sp_read : Sp := fun vs H Q _ => ∃ t : List Nat, vs = [.str (S t)] ∧ t.length ≤ 200 ∧
  (∀ (L : List (Int × Int)) (p r : Addr) (H' : Hp), stF t t.length = some L → Same H H' → H' p = some (.tup [.int (t.length : Nat), .ref r]) → LT bV H' r L → Q (.ref p) H') ∧ (∀ (i : Nat) (H' : Hp), FaultAt t i → Same H H' → Q (.int i) H')
def ts_read (K : PySem.W.Frag) (C : Addr) : Addr → Value → Option Addr → TS := fun a cls d =>
  tSeq (tIfS (L2.tOr (L2.tNot (tTest (tCB (rIsX C a cls) (tCons (tVar 1) (tCons (tC (.ref C)) tNil))))) (tTest (tCB (rIsi K) (tCons (tXf a cls d C "place" (tVar 1)) (tCons (tC (.ty "bool")) tNil)))))
    (tRet (tUn (rU fun i => .int (-i)) (tC (.int 2)))) tNext) (tRet (tXf a cls d C "place" (tVar 1)))
theorem mk_law_read {f f1 C B fI : Addr} {fd fd1 fdI : FuncData} (T : Txt mg) (F : Fun K "_law_read" "_law_read" s_law_read f fd) (m : mg "_law_read" = some (.ref f)) (b : Binds K fd ["text"] [])
    (C_parse_layout : CalX P w K mg base "parse_layout" 3 f1 fd1 ["text"] (sp_parse K C))
    (X_TextError : XCal P w K mg base "TextError" C 1 fI fdI ["self", "place"] (sp_exc1 C "place")) (Y_TextError : ExF K mg C B "HeapgameError" "place") :
    Cal P w K mg base "_law_read" 4 f fd ["text"] sp_read := by
  refine ⟨F.ok sc_law_read (fun vs H Q E h => ?_) (fun cdv A outer s H vs Q E hr h => ?_), m, F.kp, b⟩
  · obtain ⟨t, rfl, _⟩ := h
    rfl
  obtain ⟨t, rfl, hn, q, e⟩ := h
  refine ⟨_, (pss_one (ps_try_as (i := 1) (c := .ref B) (tb := fun W => tRet (tCallS (sp_parse K C) (WE W) (tCons (tVar 0) tNil))) (ts := ts_read K C) (Wout := fun _ _ _ _ => False) rfl rfl sc_law_read.nd rfl rfl ⟨rfl, by decide, Or.inl Y_TextError.m⟩ takes0
    (fun W pn xe tk _ => pss_one (ps_ret (pe_callS C_parse_layout.ok (hr.mono (by decide)) rfl C_parse_layout.mg C_parse_layout.kp C_parse_layout.b (fun σ => passAt tk σ) (pa_cons (pv 0) pa_nil))))
    (fun a oe cls d pn hz hf => pss_cons (ps_if (PW.pt (pw_or (pt_not (pt_val (pe_callB (call_isX hz) (by rfl) T.isinstance (by decide +kernel) (pa_cons (pv 1) (pa_cons (pe_glob rfl X_TextError.m rfl) pa_nil))))) (pw_or1 (pt_val (pe_callB call_isi (by rfl) T.isinstance (by decide +kernel) (pa_cons (pe_xf Y_TextError.xf Y_TextError.no hz hf (pv 1)) (pa_cons (pe_bltn (v := .ty "bool") (u := .type "bool") rfl T.bool (by decide +kernel) rfl) pa_nil)))))))
      (pss_one (ps_ret (pe_un un_neg pe_int))) pss_nil) (pss_one (ps_ret (pe_xf Y_TextError.xf Y_TextError.no hz hf (pv 1))))))), ?_⟩
  try dsimp only [cxOf, Cx.nox, Cx.wish]
  rw [show start ["text", "e"] [V.str (S t)] = [some (V.str (S t)), none] from rfl]
  refine r_ret ?_
  show (tCons (tVar 0) tNil) _ _ _
  walk_at "rd"
  refine ⟨t, rfl, hn, q, fun i d H' hf s' nd hd => ?_⟩
  refine ⟨true, Y_TextError.by_, fun _ a0 na => ?_, fun z => Bool.noConfusion z⟩
  unfold ts_read
  dsimp only [List.set_cons_succ, List.set_cons_zero]
  refine r_seq ?_
  walk_at "rd"
  refine ⟨rfl, rfl, ?_⟩
  walk_at "rd"
  refine ⟨.ref a0, rfl, rfl, rfl, d, _, .int (i : Nat), rfl, hd, rfl, ?_⟩
  walk_at "rd"
  refine ⟨.ref a0, rfl, rfl, rfl, d, _, .int (i : Nat), rfl, hd, rfl, ?_⟩
  exact e i H' hf s'
end
end Pf

namespace Pf
open PySem L2
local macro_rules | `(tactic| walk_at "rd1") => `(tactic| first
  | with_reducible refine r_seqA ?_
  | with_reducible refine r_seqD ?_
  | with_reducible refine r_seqF ?_
  | with_reducible refine r_seqN ?_
  | with_reducible refine r_asg ?_
  | with_reducible refine r_drop ?_
  | with_reducible refine r_ret ?_
  | with_reducible refine r_ifS ?_
  | ((with_reducible refine r_next ?_); try dsimp only)
  | ((with_reducible refine r_name ?_); try dsimp only [List.set_cons_succ, List.set_cons_zero, wipe])
  | ((with_reducible refine' r_var ?rdh ?_); (case rdh => rfl))
  | with_reducible refine r_c ?_
  | with_reducible refine r_op ?_
  | with_reducible refine r_un ?_
  | with_reducible refine r_I0 ?_
  | ((with_reducible refine r_I ?_ ?_); (· first | decide | exact Or.inl (by decide) | exact Or.inr (by decide) | (show _ ∧ _; constructor <;> decide) | (show (0:Int) < _; omega) | (show CDiv _ _; unfold CDiv; omega) ))
  | with_reducible refine r_U ?_
  | with_reducible refine r_eqI ?_
  | with_reducible refine r_neI ?_
  | with_reducible refine r_eqB ?_
  | with_reducible refine r_neB ?_
  | with_reducible refine r_test ?_
  | with_reducible refine r_B ?_
  | with_reducible refine r_bl ?_
  | with_reducible refine r_bl2 ?_
  | with_reducible refine r_yes ?_
  | with_reducible refine r_wipe (by rfl) ?_
  | with_reducible refine r_rfl ?_
  | ((with_reducible refine' r_eqA ?rdh ?_); (case rdh => rfl))
  | with_reducible refine r_and ?_
  | with_reducible refine r_or ?_
  | with_reducible refine r_not ?_
  | with_reducible refine r_andV ?_
  | with_reducible refine r_orV ?_
  | with_reducible refine r_notV ?_
  | with_reducible refine r_ifE ?_
  | with_reducible refine r_nil ?_
  | with_reducible refine r_cons ?_
  | with_reducible refine r_tup ?_
  | with_reducible refine r_lst ?_
  | with_reducible refine r_CB ?_
  | with_reducible refine r_call ?_
  | with_reducible refine r_bm ?_
  | with_reducible refine r_bm0 ?_
  | with_reducible refine r_int ?_
  | with_reducible refine r_i2 ?_
  | with_reducible refine r_i1 ?_
  | with_reducible refine r_gcons ?_
  | with_reducible refine r_gnil ?_
  | with_reducible refine r_gsub ?_
  | with_reducible refine iteT ?_
  | with_reducible refine iteF ?_
  | with_reducible refine ite_notT ?_
  | with_reducible refine ite_notF ?_
  | with_reducible refine r_isi_ib ?_
  | with_reducible refine r_isi_ii ?_
  | with_reducible refine r_isi_bb ?_
  | with_reducible refine r_isi_nb ?_
  | with_reducible refine r_isi_nt ?_
  | ((with_reducible refine' r_isi_ll ?rdh ?_); (case rdh => first | assumption | exact upd_same))
  | ((with_reducible refine' r_isi_tt ?rdh ?_); (case rdh => first | assumption | exact upd_same))
  | with_reducible refine r_sl ?_
  | with_reducible refine r_noPart ?_
  | with_reducible refine r_part ?_
  | with_reducible refine r_int1 ?_
  | with_reducible refine r_tru ?_
  | with_reducible refine r_ckw ?_
  | with_reducible refine r_lc ?_
  | with_reducible refine r_lc2 ?_
  | with_reducible refine r_forS ?_
  | with_reducible refine r_iR1 ?_
  | with_reducible refine r_iR2 ?_
  | with_reducible refine r_iL ?_
  | ((with_reducible refine' r_lenL ?rdh ?_); (case rdh => walk_at "sq"))
  | ((with_reducible refine' r_ixL ?rdh ?rda ?_); (case rdh => walk_at "sq"); (case rda => walk_at "at"))
  | ((with_reducible refine' r_ixT ?rdh ?rda ?_); (case rdh => walk_at "sq"); (case rda => walk_at "at")))
local macro_rules | `(tactic| walk_at "sq") => `(tactic| first
  | assumption
  | exact SqL.of (by assumption)
  | exact SqL.of upd_same
  | exact SqT.of (by assumption)
  | exact SqT.of upd_same)
local macro_rules | `(tactic| walk_at "sml") => `(tactic| (rw [sizeLine_eq]; simp))
local macro_rules | `(tactic| walk_at "at") => `(tactic| first | assumption | rfl)
local macro_rules | `(tactic| walk_at "rd") => `(tactic| repeat walk_at "rd1")
local macro_rules | `(tactic| walk_at "rd1") => `(tactic| first
  | with_reducible refine r_addS ?_
  | with_reducible refine r_lenS ?_
  | with_reducible refine r_eqS ?_
  | with_reducible refine r_neS ?_
  | with_reducible refine r_iES ?_
  | with_reducible refine r_iES1 ?_
  | with_reducible refine r_iEL ?_)
section
variable {w : World} {P : Program} {base : Heap} {K : PySem.W.Frag} {mg : Str → Option Value}
def sp_law (K : PySem.W.Frag) : Sp := fun vs H Q _ => ∃ (a : Addr) (ns : List Int), vs = [.ref a] ∧ SqL K H a (ns.map V.int) ∧ ns.length ≤ 63 ∧ ∀ H', Q (.bl true) H'
theorem mk_law {f f1 f2 f3 f4 f5 f6 f7 f8 f9 C : Addr} {fd fd1 fd2 fd3 fd4 fd5 fd6 fd7 fd8 fd9 : FuncData} (T : Txt mg) (F : Fun K "law" "law" s_law f fd)
    (C_law_digits : Cal P w K mg base "_law_digits" 2 f1 fd1 ["script", "first", "last"] (sp_digits K))
    (C_law_draw : Cal P w K mg base "_law_draw" 1 f2 fd2 ["box", "many"] sp_draw)
    (C_law_blocks : Cal P w K mg base "_law_blocks" 2 f3 fd3 ["box", "size", "most"] sp_blocks)
    (C_law_cells : Cal P w K mg base "_law_cells" 1 f4 fd4 ["size", "blocks"] sp_cells)
    (C_law_is_blocks : Cal P w K mg base "_law_is_blocks" 1 f5 fd5 ["xs"] sp_is_blocks)
    (C_format_layout : Cal P w K mg base "format_layout" 1 f6 fd6 ["size", "layout"] sp_format)
    (C_parse_layout : CalX P w K mg base "parse_layout" 3 f7 fd7 ["text"] (sp_parse K C))
    (C_law_fault : Cal P w K mg base "_law_fault" 1 f8 fd8 ["text"] sp_fault)
    (C_law_read : Cal P w K mg base "_law_read" 4 f9 fd9 ["text"] sp_read) : FnOk P w K mg base CX0 5 f fd ["script"] (sp_law K) := by
  refine F.ok sc_law (fun vs H Q E h => ?_) (fun cdv A outer s H vs Q E hr h => ?_)
  · obtain ⟨a, ns, rfl, _⟩ := h
    rfl
  rcases h with ⟨a, ns, rfl, hS, h63, q⟩
  refine ⟨_, (pss_cons (ps_set (i := 1) sc_law.nd rfl (Or.inl rfl) (pe_lst (pa_cons (pe_call C_law_digits.ok (hr.mono (by first | decide | omega)) rfl C_law_digits.mg C_law_digits.kp C_law_digits.b .nil pass0 (pa_cons (pv 0) (pa_cons pe_int (pa_cons pe_int pa_nil)))) (pa_cons pe_int pa_nil)))) (pss_cons (ps_set (i := 2) sc_law.nd rfl (Or.inl rfl) (pe_op op_add pe_int (pe_call C_law_draw.ok (hr.mono (by first | decide | omega)) rfl C_law_draw.mg C_law_draw.kp C_law_draw.b .nil pass0 (pa_cons (pv 1) (pa_cons pe_int pa_nil))))) (pss_cons (ps_set (i := 3) sc_law.nd rfl (Or.inl rfl) (pe_call C_law_blocks.ok (hr.mono (by first | decide | omega)) rfl C_law_blocks.mg C_law_blocks.kp C_law_blocks.b .nil pass0 (pa_cons (pv 1) (pa_cons (pv 2) (pa_cons pe_int pa_nil))))) (pss_cons (ps_set (i := 4) sc_law.nd rfl (Or.inl rfl) (pe_call C_law_cells.ok (hr.mono (by first | decide | omega)) rfl C_law_cells.mg C_law_cells.kp C_law_cells.b .nil pass0 (pa_cons (pv 2) (pa_cons (pv 3) pa_nil)))) (pss_cons (ps_set (i := 5) sc_law.nd rfl (Or.inl rfl) pe_str) (pss_cons (ps_for PassesOwn.never rfl (pi_list (pv 4)) (pg_name (i := 6) sc_law.nd rfl (Or.inl rfl))
      (pss_one (ps_set (i := 5) sc_law.nd rfl (Or.inl rfl) (pe_op op_add_str (pv 5) (pe_ix ix_str pe_str (pv 6) (fun _ _ => rfl)))))) (pss_cons (ps_set (i := 7) sc_law.nd rfl (Or.inl rfl) (pe_call C_format_layout.ok (hr.mono (by first | decide | omega)) rfl C_format_layout.mg C_format_layout.kp C_format_layout.b .nil pass0 (pa_cons (pv 2) (pa_cons (pv 3) pa_nil)))) (pss_cons (ps_if (PW.pt (pw_or (pt_cmpR op_ne (pv 7) (pv 5) (nomark _)) (pw_or1 (pt_cmpR (show OpR _ _ (rNeD K) from op_neD hr.units) (pe_call C_parse_layout.ok (hr.mono (by first | decide | omega)) rfl C_parse_layout.mg C_parse_layout.kp C_parse_layout.b .nil passL (pa_cons (pv 7) pa_nil)) (pe_tup (pa_cons (pv 2) (pa_cons (pv 3) pa_nil))) (nomark _)))))
      (pss_one (ps_ret pe_bl))
      pss_nil) (pss_cons (ps_set (i := 8) sc_law.nd rfl (Or.inl rfl) (pe_op op_mod (pe_callTy call_int1 (by rfl) T.int (by decide +kernel) (pa_cons (pe_call C_law_draw.ok (hr.mono (by first | decide | omega)) rfl C_law_draw.mg C_law_draw.kp C_law_draw.b .nil pass0 (pa_cons (pv 1) (pa_cons pe_int pa_nil))) pa_nil)) (pe_op op_add (pe_callB call_len_str (by rfl) T.len PySem.boot_len (pa_cons (pv 7) pa_nil)) pe_int))) (pss_cons (ps_set (i := 9) sc_law.nd rfl (Or.inl rfl) (pe_ix ix_str pe_str (pe_call C_law_draw.ok (hr.mono (by first | decide | omega)) rfl C_law_draw.mg C_law_draw.kp C_law_draw.b .nil pass0 (pa_cons (pv 1) (pa_cons pe_int pa_nil))) (fun _ _ => rfl))) (pss_cons (ps_set (i := 10) sc_law.nd rfl (Or.inl rfl) (pe_op op_add_str (pe_op op_add_str (pe_slice sl_str (pv 7) po_none (po_some (pv 8))) (pv 9)) (pe_slice sl_str (pv 7) (po_some (pe_op op_add (pv 8) (pe_call C_law_draw.ok (hr.mono (by first | decide | omega)) rfl C_law_draw.mg C_law_draw.kp C_law_draw.b .nil pass0 (pa_cons (pv 1) (pa_cons pe_int pa_nil))))) po_none))) (pss_cons (ps_set (i := 11) sc_law.nd rfl (Or.inl rfl) (pe_call C_law_fault.ok (hr.mono (by first | decide | omega)) rfl C_law_fault.mg C_law_fault.kp C_law_fault.b .nil pass0 (pa_cons (pv 10) pa_nil))) (pss_cons (ps_set (i := 12) sc_law.nd rfl (Or.inl rfl) (pe_call C_law_read.ok (hr.mono (by first | decide | omega)) rfl C_law_read.mg C_law_read.kp C_law_read.b .nil pass0 (pa_cons (pv 10) pa_nil))) (pss_cons (ps_if (pt_cmpR op_ge (pv 11) pe_int (nomark _))
      (pss_one (ps_ret (pe_cmpR (show OpR _ _ (rEqD K) from op_eqD hr.units) (pv 12) (pv 11) (nomark _))))
      pss_nil) (pss_cons (ps_if (PW.pt (pw_or (pt_not (pt_val (pe_callB (show CallR _ _ (rIsi K) from call_isi) (by rfl) T.isinstance (by decide +kernel) (pa_cons (pv 12) (pa_cons (pe_bltn (v := .ty "tuple") (u := .type "tuple") rfl T.tuple (by decide +kernel) rfl) pa_nil))))) (pw_or (pt_cmpR op_ne (pe_callB (show CallR _ _ (fun xs H Q => ∃ p ys, xs = [V.ref p] ∧ (SqL K H p ys ∨ SqT K H p ys) ∧ Q (.int ys.length) H) from call_len_seq) (by rfl) T.len PySem.boot_len (pa_cons (pv 12) pa_nil)) pe_int (nomark _)) (pw_or (pt_cmpR op_ne (pe_ix (show IxR _ (rIxT K) from ix_tup) (pv 12) pe_int (fun _ _ => rfl)) (pe_callB call_len_str (by rfl) T.len PySem.boot_len (pa_cons (pv 10) pa_nil)) (nomark _)) (pw_or1 (pt_not (pt_val (pe_call C_law_is_blocks.ok (hr.mono (by first | decide | omega)) rfl C_law_is_blocks.mg C_law_is_blocks.kp C_law_is_blocks.b .nil pass0 (pa_cons (pe_ix (show IxR _ (rIxT K) from ix_tup) (pv 12) pe_int (fun _ _ => rfl)) pa_nil)))))))))
      (pss_one (ps_ret pe_bl))
      pss_nil) (pss_one (ps_ret (pe_cmpR op_eq (pe_call C_format_layout.ok (hr.mono (by first | decide | omega)) rfl C_format_layout.mg C_format_layout.kp C_format_layout.b .nil pass0 (pa_cons (pe_ix (show IxR _ (rIxT K) from ix_tup) (pv 12) pe_int (fun _ _ => rfl)) (pa_cons (pe_ix (show IxR _ (rIxT K) from ix_tup) (pv 12) pe_int (fun _ _ => rfl)) pa_nil))) (pv 10) (nomark _))))))))))))))))))), ?_⟩
  try dsimp only [cxOf, Cx.nox, Cx.wish]
  rw [show start ["script", "box", "size", "layout", "cells", "due", "cell", "text", "at", "sign", "other", "fault", "told"] [V.ref a] = [some (V.ref a), none, none, none, none, none, none, none, none, none, none, none, none] from rfl]
  walk_at "rd"
  refine ⟨a, ns, 0, 63, rfl, hS, by decide, by decide, fun d ds H1 nd s1 hd hdl => ?_⟩
  walk_at "rd"
  refine ⟨by walk_at "sml", fun b nb => ?_⟩
  refine upd_new nb fun H2 hb s2 => ?_
  have ndb : d ≠ b := ne_of_none hd nb
  have B2 : Bx H2 b d := ⟨ds, 0, hb, s2 _ _ hd, ndb⟩
  walk_at "rd"
  refine ⟨b, d, 30, rfl, by decide, B2, fun r1 H3 r10 r11 B3 u3 => ?_⟩
  walk_at "rd"
  refine ⟨b, d, 1 + r1, 12, rfl, by omega, by decide, B3, fun L bs H4 nL B4 u4 hL hv hlen => ?_⟩
  have nLb : L ≠ b := B3.ne nL
  obtain ⟨n, hn⟩ : ∃ n : Nat, 1 + r1 = n := ⟨(1 + r1).toNat, by omega⟩
  rw [hn] at hv
  walk_at "rd"
  refine ⟨L, n, bs, by rw [hn], by omega, hL, hv, by omega, fun C cs H5 nC s5 hC hcs => ?_⟩
  have nCb : C ≠ b := B4.ne nC
  have hcl : cs.length = n := by have := hcs.1; omega
  have hL5 := hL.same s5
  obtain ⟨hdl2, hread⟩ := cells_read hv (by omega) hcs
  obtain ⟨t, et⟩ : ∃ t, cs.map letter = t := ⟨_, rfl⟩
  rw [et] at hdl2 hread
  have hrt := read_text (t := t) (L := bs) (by rw [hdl2]; exact hread)
  rw [hdl2] at hrt
  rw [hn]
  walk_at "rd"
  refine r_iL2 (SqL.of hC) ?_
  refine for_list (K := K) (a := C) (xs := cs.map V.int) (fun i σ H' => ∃ x6 : Option V, σ = [some (.ref a), some (.ref b), some (.int n), some (.ref L), some (.ref C), some (.str (S ((cs.take i).map letter))), x6, none, none, none, none, none, none] ∧ H' = H5)
    ⟨none, by rw [nil_txt]; rfl, rfl⟩ (fun i σ H' _ ⟨_, _, e⟩ => e ▸ SqL.of hC) ?_ ?_
  · rintro i x σ H' hx ⟨x6, rfl, rfl⟩
    rw [List.getElem?_map] at hx
    obtain ⟨c, ec, rfl⟩ := Option.map_eq_some_iff.mp hx
    have ei : i < cs.length := by
      by_cases z : i < cs.length
      · exact z
      · rw [List.getElem?_eq_none (by omega)] at ec; cases ec
    have hc2 := hcs.2 i ei
    rw [ec] at hc2
    have hcl2 := cellOf_le (i := (i : Int)) (bs := bs) (k := 0) (Int.le_refl _)
    have e2 : c = cellOf i 0 bs := Option.some.inj hc2
    rw [← e2] at hcl2
    walk_at "rd"
    refine r_ixS (dabc_at hcl2.1 (by omega)) (by rw [dabc_len, sizeLine_eq]; decide) ?_
    walk_at "rd"
    rw [show (⟨#[letter c]⟩ : Str) = S [letter c] from rfl, S_len, S_len, S_append]
    refine ⟨by rw [List.length_map, List.length_take, sizeLine_eq]; simp; omega, ?_⟩
    walk_at "rd"
    refine ⟨some (.int c), ?_, rfl⟩
    rw [List.take_add_one, ec, List.map_append]
    rfl
  rintro σ H' ⟨x6, rfl, rfl⟩
  rw [List.length_map, List.take_length, et]
  dsimp only
  walk_at "rd"
  refine ⟨L, n, bs, rfl, by omega, hL5, hv, by omega, fun H6 s6 => ?_⟩
  rw [hrt.2.2]
  refine r_name ?_
  dsimp only [List.set_cons_succ, List.set_cons_zero]
  refine r_seq ?_
  walk_at "rd"
  refine r_iteN (fun c => absurd rfl c) (fun _ => ?_)
  walk_at "rd"
  have hL6 := hL5.same s6
  refine ⟨t, rfl, by omega, fun L7 p7 r7 H7 hst7 s7 hp7 hr7 => ?_, fun i d H' hf => ?_⟩
  case refine_2 =>
    have z := fault_not hf
    rw [hdl2, hread] at z
    cases z
  rw [hdl2, hread] at hst7
  obtain rfl := Option.some.inj hst7
  rw [hdl2] at hp7
  have hL7 := hL6.same s7
  walk_at "rd"
  refine ⟨by walk_at "sml", fun p8 np8 => ?_⟩
  refine upd_new np8 fun H8 hp8 s8 => ?_
  have B8 : Bx H8 b d := (((B4.same s5).same s6).same s7).same s8
  refine r_neE (x := ((n : Int), bs)) (y := ((n : Int), bs)) (is_pair (SqT.of (s8 _ _ hp7)) is_int (hr7.same s8).is) (is_pair (SqT.of hp8) is_int (hL7.same s8).is) (by decide) ?_
  walk_at "rd"
  refine r_iteN (fun c => absurd rfl c) (fun _ => ?_)
  walk_at "rd"
  refine ⟨b, d, 60, rfl, by decide, B8, fun r2 H9 r20 r21 B9 u9 => ?_⟩
  walk_at "rd"
  refine ⟨by rw [S_len, sizeLine_eq]; omega, ?_⟩
  rw [S_len, hdl2]
  refine r_c ?_
  walk_at "rd"
  obtain ⟨k, hk⟩ : ∃ k : Nat, r2 % ((n : Int) + 1) = k := ⟨(r2 % ((n : Int) + 1)).toNat, by have := Int.emod_nonneg r2 (show (n : Int) + 1 ≠ 0 by omega); omega⟩
  have hkn : k ≤ n := by have := Int.emod_lt_of_pos r2 (show 0 < (n : Int) + 1 by omega); omega
  rw [hk]
  refine ⟨b, d, 7, rfl, by decide, B9, fun r3 H10 r30 r31 B10 u10 => ?_⟩
  obtain ⟨sg, hsg⟩ := sgn_at r30 r31
  refine r_ixS hsg (by rw [sgn_len, sizeLine_eq]; decide) ?_
  walk_at "rd"
  refine r_slS (by rw [S_len, sizeLine_eq]; omega) ?_
  rw [cutS_take (by omega)]
  walk_at "rd"
  rw [show (⟨#[sg]⟩ : Str) = S [sg] from rfl, S_len, S_len, S_append, List.length_take]
  refine ⟨by rw [sizeLine_eq]; simp; omega, ?_⟩
  walk_at "rd"
  refine ⟨b, d, 2, rfl, by decide, B10, fun r4 H11 r40 r41 B11 u11 => ?_⟩
  walk_at "rd"
  obtain ⟨k2, hk2⟩ : ∃ k2 : Nat, (k : Int) + r4 = k2 := ⟨((k : Int) + r4).toNat, by omega⟩
  rw [hk2]
  refine r_slS (by rw [S_len, sizeLine_eq]; omega) ?_
  rw [cutS_drop]
  walk_at "rd"
  rw [S_len, S_len, S_append]
  obtain ⟨o, ho⟩ : ∃ o, t.take k ++ [sg] ++ t.drop k2 = o := ⟨_, rfl⟩
  have hol : o.length ≤ 60 := by rw [← ho]; simp; omega
  refine ⟨by rw [sizeLine_eq]; simp; omega, ?_⟩
  rw [ho]
  walk_at "rd"
  cases hso : stF o o.length with
  | none =>
    obtain ⟨i, hi⟩ := fault_ex (Nat.le_refl _) hso
    refine ⟨o, rfl, by omega, fun L' h' => (by rw [hso] at h'; cases h'), fun i1 hf1 => ?_⟩
    obtain rfl := fault_uniq hi hf1
    walk_at "rd"
    refine ⟨o, rfl, by omega, fun L' _ _ _ h' => (by rw [hso] at h'; cases h'), fun i2 H12 hf2 s12 => ?_⟩
    obtain rfl := fault_uniq hi hf2
    refine r_name ?_
    dsimp only [List.set_cons_succ, List.set_cons_zero]
    refine r_seq ?_
    walk_at "rd"
    refine r_ite (fun _ => ?_) (fun c => absurd (show (0 : Int) ≤ (i : Int) by omega) c)
    walk_at "rd"
    refine r_eqE (x := (i : Int)) (y := (i : Int)) is_int is_int (by decide) ?_
    rw [decide_eq_true rfl]
    exact q _
  | some Lo =>
    have hro := read_text hso
    refine ⟨o, rfl, by omega, fun L' h' => ?_, fun i1 hf1 => (by have z := fault_not hf1; rw [hso] at z; cases z)⟩
    walk_at "rd"
    refine ⟨o, rfl, by omega, fun L' p9 r9 H12 h' s12 hp9 hr9 => ?_, fun i1 _ hf1 => (by have z := fault_not hf1; rw [hso] at z; cases z)⟩
    rw [hso] at h'
    obtain rfl := Option.some.inj h'
    refine r_name ?_
    dsimp only [List.set_cons_succ, List.set_cons_zero]
    refine r_seq ?_
    walk_at "rd"
    refine r_ite (fun c => absurd c (by decide)) (fun _ => ?_)
    walk_at "rd"
    refine r_seq ?_
    walk_at "rd"
    refine r_lenT (SqT.of hp9) ?_
    walk_at "rd"
    refine r_iteN (fun c => absurd rfl c) (fun _ => ?_)
    walk_at "rd"
    refine ⟨by rw [S_len, sizeLine_eq]; omega, ?_⟩
    rw [S_len]
    refine r_neI ?_
    walk_at "rd"
    refine r_iteN (fun c => absurd rfl c) (fun _ => ?_)
    walk_at "rd"
    refine ⟨r9, Lo, rfl, hr9, ?_⟩
    walk_at "rd"
    refine ⟨r9, o.length, Lo, rfl, by omega, hr9, hro.1, hro.2.1, fun H13 s13 => ?_⟩
    rw [hro.2.2]
    walk_at "rd"
    rw [decide_eq_true rfl]
    exact q _
end
theorem all_mk {l : PySem.W.OpenLaw} {w : World} {K : PySem.W.Frag} {h : Heap} {mg : Str → Option Value} {fa f1 f2 f3 f4 f5 f6 f7 f8 f9 f10 f11 f12 f13 : Addr} (X : K.In h) (G : h.Ns mainGlobals mg) (hfa : mg "law" = some (.ref fa))
    {od1 an1 od2 an2 od3 an3 od4 an4 od5 an5 od6 an6 od7 an7 od8 an8 od9 an9 od10 an10 od11 an11 od12 an12 od13 an13 : Option Addr} {sl1 sl2 sl3 sl4 sl5 sl6 sl7 sl8 sl9 sl10 sl11 sl12 sl13 : Array (Option Value)} {oc1 kV1 dc1 pm1 ct1 cd1 oc2 kV2 dc2 pm2 ct2 cd2 oc3 kV3 dc3 pm3 ct3 cd3 oc4 kV4 dc4 pm4 ct4 cd4 oc5 kV5 dc5 pm5 ct5 cd5 oc6 kV6 dc6 pm6 ct6 cd6 oc7 kV7 dc7 pm7 ct7 cd7 oc8 kV8 dc8 pm8 ct8 cd8 oc9 kV9 dc9 pm9 ct9 cd9 oc10 kV10 dc10 pm10 ct10 cd10 oc11 kV11 dc11 pm11 ct11 cd11 oc12 kV12 dc12 pm12 ct12 cd12 oc13 kV13 dc13 pm13 ct13 cd13 : Value}
    (a1 : PySem.W.nsIn K mainGlobals "_law_cell" = some (some (.ref f1))) (l1 : K.lookup f1 = some ⟨oc1, od1, .func (PySem.W.fnOf "_law_cell" "_law_cell" (defArgs s_law_cell) (defBody s_law_cell) (defScope s_law_cell) .none kV1 dc1 pm1 an1 cd1 ct1), sl1⟩) (c1 : PySem.W.codeIn K cd1 "_law_cell" = true) (k1 : PySem.W.keepIn K (.ref f1) = true)
    (a2 : PySem.W.nsIn K mainGlobals "_law_digits" = some (some (.ref f2))) (l2 : K.lookup f2 = some ⟨oc2, od2, .func (PySem.W.fnOf "_law_digits" "_law_digits" (defArgs s_law_digits) (defBody s_law_digits) (defScope s_law_digits) .none kV2 dc2 pm2 an2 cd2 ct2), sl2⟩) (c2 : PySem.W.codeIn K cd2 "_law_digits" = true) (k2 : PySem.W.keepIn K (.ref f2) = true)
    (a3 : PySem.W.nsIn K mainGlobals "_law_draw" = some (some (.ref f3))) (l3 : K.lookup f3 = some ⟨oc3, od3, .func (PySem.W.fnOf "_law_draw" "_law_draw" (defArgs s_law_draw) (defBody s_law_draw) (defScope s_law_draw) .none kV3 dc3 pm3 an3 cd3 ct3), sl3⟩) (c3 : PySem.W.codeIn K cd3 "_law_draw" = true) (k3 : PySem.W.keepIn K (.ref f3) = true)
    (a4 : PySem.W.nsIn K mainGlobals "_law_blocks" = some (some (.ref f4))) (l4 : K.lookup f4 = some ⟨oc4, od4, .func (PySem.W.fnOf "_law_blocks" "_law_blocks" (defArgs s_law_blocks) (defBody s_law_blocks) (defScope s_law_blocks) .none kV4 dc4 pm4 an4 cd4 ct4), sl4⟩) (c4 : PySem.W.codeIn K cd4 "_law_blocks" = true) (k4 : PySem.W.keepIn K (.ref f4) = true)
    (a5 : PySem.W.nsIn K mainGlobals "_law_cells" = some (some (.ref f5))) (l5 : K.lookup f5 = some ⟨oc5, od5, .func (PySem.W.fnOf "_law_cells" "_law_cells" (defArgs s_law_cells) (defBody s_law_cells) (defScope s_law_cells) .none kV5 dc5 pm5 an5 cd5 ct5), sl5⟩) (c5 : PySem.W.codeIn K cd5 "_law_cells" = true) (k5 : PySem.W.keepIn K (.ref f5) = true)
    (a6 : PySem.W.nsIn K mainGlobals "_law_is_blocks" = some (some (.ref f6))) (l6 : K.lookup f6 = some ⟨oc6, od6, .func (PySem.W.fnOf "_law_is_blocks" "_law_is_blocks" (defArgs s_law_is_blocks) (defBody s_law_is_blocks) (defScope s_law_is_blocks) .none kV6 dc6 pm6 an6 cd6 ct6), sl6⟩) (c6 : PySem.W.codeIn K cd6 "_law_is_blocks" = true) (k6 : PySem.W.keepIn K (.ref f6) = true)
    (a7 : PySem.W.nsIn K mainGlobals "format_layout" = some (some (.ref f7))) (l7 : K.lookup f7 = some ⟨oc7, od7, .func (PySem.W.fnOf "format_layout" "format_layout" (defArgs s_format_layout) (defBody s_format_layout) (defScope s_format_layout) .none kV7 dc7 pm7 an7 cd7 ct7), sl7⟩) (c7 : PySem.W.codeIn K cd7 "format_layout" = true) (k7 : PySem.W.keepIn K (.ref f7) = true)
    (a8 : PySem.W.nsIn K mainGlobals "_continues" = some (some (.ref f8))) (l8 : K.lookup f8 = some ⟨oc8, od8, .func (PySem.W.fnOf "_continues" "_continues" (defArgs s_continues) (defBody s_continues) (defScope s_continues) .none kV8 dc8 pm8 an8 cd8 ct8), sl8⟩) (c8 : PySem.W.codeIn K cd8 "_continues" = true) (k8 : PySem.W.keepIn K (.ref f8) = true)
    (a9 : PySem.W.nsIn K mainGlobals "_begins" = some (some (.ref f9))) (l9 : K.lookup f9 = some ⟨oc9, od9, .func (PySem.W.fnOf "_begins" "_begins" (defArgs s_begins) (defBody s_begins) (defScope s_begins) .none kV9 dc9 pm9 an9 cd9 ct9), sl9⟩) (c9 : PySem.W.codeIn K cd9 "_begins" = true) (k9 : PySem.W.keepIn K (.ref f9) = true)
    (a10 : PySem.W.nsIn K mainGlobals "parse_layout" = some (some (.ref f10))) (l10 : K.lookup f10 = some ⟨oc10, od10, .func (PySem.W.fnOf "parse_layout" "parse_layout" (defArgs s_parse_layout) (defBody s_parse_layout) (defScope s_parse_layout) .none kV10 dc10 pm10 an10 cd10 ct10), sl10⟩) (c10 : PySem.W.codeIn K cd10 "parse_layout" = true) (k10 : PySem.W.keepIn K (.ref f10) = true)
    (a11 : PySem.W.nsIn K mainGlobals "_law_fault" = some (some (.ref f11))) (l11 : K.lookup f11 = some ⟨oc11, od11, .func (PySem.W.fnOf "_law_fault" "_law_fault" (defArgs s_law_fault) (defBody s_law_fault) (defScope s_law_fault) .none kV11 dc11 pm11 an11 cd11 ct11), sl11⟩) (c11 : PySem.W.codeIn K cd11 "_law_fault" = true) (k11 : PySem.W.keepIn K (.ref f11) = true)
    (a12 : PySem.W.nsIn K mainGlobals "_law_read" = some (some (.ref f12))) (l12 : K.lookup f12 = some ⟨oc12, od12, .func (PySem.W.fnOf "_law_read" "_law_read" (defArgs s_law_read) (defBody s_law_read) (defScope s_law_read) .none kV12 dc12 pm12 an12 cd12 ct12), sl12⟩) (c12 : PySem.W.codeIn K cd12 "_law_read" = true) (k12 : PySem.W.keepIn K (.ref f12) = true)
    (a13 : PySem.W.nsIn K mainGlobals "law" = some (some (.ref f13))) (l13 : K.lookup f13 = some ⟨oc13, od13, .func (PySem.W.fnOf "law" "law" (defArgs s_law) (defBody s_law) (defScope s_law) .none kV13 dc13 pm13 an13 cd13 ct13), sl13⟩) (c13 : PySem.W.codeIn K cd13 "law" = true) (k13 : PySem.W.keepIn K (.ref f13) = true)
    {t_FREE : Tok} (z_FREE : PySem.W.nsIn K mainGlobals "FREE" = some (some (.str "." t_FREE)))
    {t_LETTERS : Tok} (z_LETTERS : PySem.W.nsIn K mainGlobals "LETTERS" = some (some (.str "abcdefghijklmnopqrstuvwxyz" t_LETTERS)))
    (z_bool : PySem.W.nsIn K mainGlobals "bool" = some none)
    (z_enumerate : PySem.W.nsIn K mainGlobals "enumerate" = some none)
    (z_int : PySem.W.nsIn K mainGlobals "int" = some none)
    (z_isinstance : PySem.W.nsIn K mainGlobals "isinstance" = some none)
    (z_len : PySem.W.nsIn K mainGlobals "len" = some none)
    (z_list : PySem.W.nsIn K mainGlobals "list" = some none)
    (z_range : PySem.W.nsIn K mainGlobals "range" = some none)
    (z_tuple : PySem.W.nsIn K mainGlobals "tuple" = some none)
    {C_TextError cc_TextError cda_TextError fI_TextError N_TextError : Addr} {nm_TextError q_TextError : Str} {bs_TextError : List Value} {sn_TextError : List Str} {sb_TextError : List Value} {ab_TextError : Bool} {col_TextError : Option Bool} {dd_TextError : Option Addr} {m0_TextError m1_TextError m2_TextError m3_TextError m5_TextError : Option Value}
    {oc_TextError kV_TextError dc_TextError pm_TextError ct_TextError ccl_TextError cl_TextError : Value} {od_TextError an_TextError cdd_TextError cld_TextError : Option Addr} {sl_TextError ccs_TextError csl_TextError : Array (Option Value)} {vs_TextError : Array Value} {fl_TextError : Str} {tf_TextError : Tok}
    {B_HeapgameError : Addr} (ya_HeapgameError : PySem.W.nsIn K mainGlobals "HeapgameError" = some (some (.ref B_HeapgameError))) (ye_HeapgameError : PySem.W.subIn K (.ref B_HeapgameError) (.type "BaseException") = some true) (yh_HeapgameError : PySem.W.hasDictIn K B_HeapgameError = true) (yt_HeapgameError : PySem.W.typeIn K (.ref B_HeapgameError) = some (.type "type"))
    (xa_TextError : PySem.W.nsIn K mainGlobals "TextError" = some (some (.ref C_TextError)))
    (xl_TextError : K.lookup C_TextError = some (excClassObj nm_TextError q_TextError C_TextError N_TextError bs_TextError [.ref B_HeapgameError, .type "ValueError", .type "Exception", .type "BaseException", .type "object"] true sn_TextError sb_TextError ab_TextError col_TextError dd_TextError m0_TextError m1_TextError m2_TextError m3_TextError m5_TextError "ValueError.__new__"))
    (xs_TextError : PySem.W.findIn K (.ref C_TextError) "__setattr__" = some (some (.builtin "object.__setattr__")))
    (xe_TextError : PySem.W.subIn K (.ref C_TextError) (.type "BaseException") = some true)
    (xt_TextError : PySem.W.typeIn K (.ref C_TextError) = some (.type "type"))
    (xk_TextError : PySem.W.keepIn K (.ref C_TextError) = true)
    (xi_TextError : PySem.W.findIn K (.ref C_TextError) "__init__" = some (some (.ref fI_TextError)))
    (xf_TextError : PySem.W.typeIn K (.ref fI_TextError) = some (.type "function"))
    (xn_TextError : PySem.W.findIn K (.ref C_TextError) "place" = some none)
    (xL_TextError : K.lookup fI_TextError = some ⟨oc_TextError, od_TextError, .func (PySem.W.ksFn "__init__" "TextError.__init__" (defArgs s_TextError) (defBody s_TextError) (defScope s_TextError) .none kV_TextError dc_TextError pm_TextError an_TextError (.ref cda_TextError) ct_TextError cc_TextError), sl_TextError⟩)
    (xc_TextError : PySem.W.codeIn K (.ref cda_TextError) "TextError.__init__" = true)
    (xr_TextError : K.lookup cda_TextError = some ⟨ccl_TextError, cdd_TextError, .fields vs_TextError, ccs_TextError⟩)
    (xv_TextError : vs_TextError[2]? = some (.str fl_TextError tf_TextError))
    (xh_TextError : ((l.prog.main.file : Str) == fl_TextError) = true)
    (xw_TextError : (l.prog.main.scope.names.lookup ("super" : Str)).isSome = false)
    (xg_TextError : K.lookup cc_TextError = some ⟨cl_TextError, cld_TextError, .cell (some (.ref C_TextError)), csl_TextError⟩)
    (xm_TextError : PySem.W.mroIn K C_TextError (.ref C_TextError) = some true)
    (xu_TextError : PySem.W.ks_superIn K C_TextError C_TextError "__init__" = some (some (.builtin "ValueError.__init__")))
    (xV_TextError : PySem.W.subIn K (.ref C_TextError) (.type "ValueError") = some true)
    (xo_TextError : PySem.W.nsIn K PySem.cStatics "thirdparty.any" = some none)
    (xz_TextError : PySem.W.nsIn K mainGlobals "super" = some none)
    (xA_TextError : PySem.W.findIn K (.ref C_TextError) "__getattribute__" = some (some (.builtin "BaseException.__getattribute__")))
    (xG_TextError : PySem.W.findIn K (.ref C_TextError) "__getattr__" = some none)
    (xd_TextError : PySem.W.hasDictIn K C_TextError = true)
    (xy_TextError : PySem.W.subIn K (.ref C_TextError) (.ref B_HeapgameError) = some true)
    : ∃ fd : FuncData, (∀ (s : Shared) (v : Value), BindsTo s fd ⟨[v], []⟩ [("script", v)]) ∧ ∀ base : Heap, K.In base → base.Ns mainGlobals mg → FnOk l.prog w K mg base CX0 5 fa fd ["script"] (sp_law K) := by
  have e := hfa.symm.trans (PySem.W.mg_of X G a13)
  cases e
  have T : Txt mg := ⟨⟨_, PySem.W.mg_of X G z_FREE⟩, ⟨_, PySem.W.mg_of X G z_LETTERS⟩, PySem.W.mg_none_of X G z_bool, PySem.W.mg_none_of X G z_enumerate, PySem.W.mg_none_of X G z_int, PySem.W.mg_none_of X G z_isinstance, PySem.W.mg_none_of X G z_len, PySem.W.mg_none_of X G z_list, PySem.W.mg_none_of X G z_range, PySem.W.mg_none_of X G z_tuple⟩
  have F_law_cell := fun_mk (st := s_law_cell) l1 c1 k1
  have B_law_cell := F_law_cell.binds (ps := ["script", "k"]) fun _ _ _ _ _ _ us hl => match us, hl with | [_, _], _ => rfl
  have F_law_digits := fun_mk (st := s_law_digits) l2 c2 k2
  have B_law_digits := F_law_digits.binds (ps := ["script", "first", "last"]) fun _ _ _ _ _ _ us hl => match us, hl with | [_, _, _], _ => rfl
  have F_law_draw := fun_mk (st := s_law_draw) l3 c3 k3
  have B_law_draw := F_law_draw.binds (ps := ["box", "many"]) fun _ _ _ _ _ _ us hl => match us, hl with | [_, _], _ => rfl
  have F_law_blocks := fun_mk (st := s_law_blocks) l4 c4 k4
  have B_law_blocks := F_law_blocks.binds (ps := ["box", "size", "most"]) fun _ _ _ _ _ _ us hl => match us, hl with | [_, _, _], _ => rfl
  have F_law_cells := fun_mk (st := s_law_cells) l5 c5 k5
  have B_law_cells := F_law_cells.binds (ps := ["size", "blocks"]) fun _ _ _ _ _ _ us hl => match us, hl with | [_, _], _ => rfl
  have F_law_is_blocks := fun_mk (st := s_law_is_blocks) l6 c6 k6
  have B_law_is_blocks := F_law_is_blocks.binds (ps := ["xs"]) fun _ _ _ _ _ _ us hl => match us, hl with | [_], _ => rfl
  have F_format_layout := fun_mk (st := s_format_layout) l7 c7 k7
  have B_format_layout := F_format_layout.binds (ps := ["size", "layout"]) fun _ _ _ _ _ _ us hl => match us, hl with | [_, _], _ => rfl
  have F_continues := fun_mk (st := s_continues) l8 c8 k8
  have B_continues := F_continues.binds (ps := ["layout", "place", "character"]) fun _ _ _ _ _ _ us hl => match us, hl with | [_, _, _], _ => rfl
  have F_begins := fun_mk (st := s_begins) l9 c9 k9
  have B_begins := F_begins.binds (ps := ["layout", "character"]) fun _ _ _ _ _ _ us hl => match us, hl with | [_, _], _ => rfl
  have F_parse_layout := fun_mk (st := s_parse_layout) l10 c10 k10
  have B_parse_layout := F_parse_layout.binds (ps := ["text"]) fun _ _ _ _ _ _ us hl => match us, hl with | [_], _ => rfl
  have F_law_fault := fun_mk (st := s_law_fault) l11 c11 k11
  have B_law_fault := F_law_fault.binds (ps := ["text"]) fun _ _ _ _ _ _ us hl => match us, hl with | [_], _ => rfl
  have F_law_read := fun_mk (st := s_law_read) l12 c12 k12
  have B_law_read := F_law_read.binds (ps := ["text"]) fun _ _ _ _ _ _ us hl => match us, hl with | [_], _ => rfl
  have F_law := fun_mk (st := s_law) l13 c13 k13
  refine ⟨PySem.W.fnOf "law" "law" (defArgs s_law) (defBody s_law) (defScope s_law) .none kV13 dc13 pm13 an13 cd13 ct13, fun s v => .of_eq rfl, fun base _ _ => ?_⟩
  have O_TextError : OwnX K C_TextError cc_TextError := ⟨⟨⟨_, _, _, _, _, _, _, _, _, _, _, _, _, _, _, xl_TextError, by first | rfl | decide +kernel⟩, xs_TextError, xe_TextError, xt_TextError, xk_TextError⟩, ⟨_, _, _, xg_TextError⟩, xm_TextError, xu_TextError, xV_TextError, xo_TextError⟩
  have X_TextError := mk_TextError (P := l.prog) (w := w) (base := base) (PySem.W.mg_of X G xa_TextError) O_TextError xL_TextError xc_TextError xr_TextError xv_TextError xh_TextError xw_TextError (PySem.W.mg_none_of X G xz_TextError) xi_TextError xf_TextError xn_TextError
  have Y_TextError : ExF K mg C_TextError B_HeapgameError "HeapgameError" "place" := ⟨PySem.W.mg_of X G ya_HeapgameError, PySem.W.exm_ref ye_HeapgameError yh_HeapgameError yt_HeapgameError xy_TextError, ⟨xA_TextError, xG_TextError, xe_TextError, xd_TextError⟩, xn_TextError⟩
  have C_law_cell := mk_law_cell (P := l.prog) (w := w) (base := base) T F_law_cell (PySem.W.mg_of X G a1) B_law_cell
  have C_law_digits := mk_law_digits (P := l.prog) (w := w) (base := base) T F_law_digits (PySem.W.mg_of X G a2) B_law_digits C_law_cell
  have C_law_draw := mk_law_draw (P := l.prog) (w := w) (base := base) T F_law_draw (PySem.W.mg_of X G a3) B_law_draw
  have C_law_blocks := mk_law_blocks (P := l.prog) (w := w) (base := base) T F_law_blocks (PySem.W.mg_of X G a4) B_law_blocks C_law_draw
  have C_law_cells := mk_law_cells (P := l.prog) (w := w) (base := base) T F_law_cells (PySem.W.mg_of X G a5) B_law_cells
  have C_law_is_blocks := mk_law_is_blocks (P := l.prog) (w := w) (base := base) T F_law_is_blocks (PySem.W.mg_of X G a6) B_law_is_blocks
  have C_format_layout := mk_format_layout (P := l.prog) (w := w) (base := base) T F_format_layout (PySem.W.mg_of X G a7) B_format_layout
  have C_continues := mk_continues (P := l.prog) (w := w) (base := base) T F_continues (PySem.W.mg_of X G a8) B_continues
  have C_begins := mk_begins (P := l.prog) (w := w) (base := base) T F_begins (PySem.W.mg_of X G a9) B_begins
  have C_parse_layout := mk_parse_layout (P := l.prog) (w := w) (base := base) T F_parse_layout (PySem.W.mg_of X G a10) B_parse_layout C_continues C_begins X_TextError
  have C_law_fault := mk_law_fault (P := l.prog) (w := w) (base := base) T F_law_fault (PySem.W.mg_of X G a11) B_law_fault
  have C_law_read := mk_law_read (P := l.prog) (w := w) (base := base) T F_law_read (PySem.W.mg_of X G a12) B_law_read C_parse_layout X_TextError Y_TextError
  exact mk_law T F_law C_law_digits C_law_draw C_law_blocks C_law_cells C_law_is_blocks C_format_layout C_parse_layout C_law_fault C_law_read
theorem walk {l : PySem.W.OpenLaw} {q : Program} {loose : List Str} {XP : (Str → Option Value) → Heap → Prop} {YP : World → Heap → Prop} {d : DefRec} {K : Params → PySem.W.Frag} (hn : l.most = some 63) (hdf : d.params.defaults = [])
    (hY : ∀ (w : World) (h : Heap), YP w h → (K w.params).In h)
    (F : ∀ (w : World) (mg : Str → Option Value) (fa : Addr) (h : Heap), (K w.params).In h → h.Ns mainGlobals mg → mg d.name = some (.ref fa) →
      ∃ fd : FuncData, (∀ (s : Shared) (u : Value), BindsTo s fd ⟨[u], []⟩ [("script", u)]) ∧ ∀ base : Heap, (K w.params).In base → base.Ns mainGlobals mg → FnOk l.prog w (K w.params) mg base CX0 5 fa fd ["script"] (sp_law (K w.params))) :
    PySem.W.WalkO q loose XP YP l.row.toRowW d [] (fun f vs => PySem.call f vs) :=
  L2.walk_of (n := 63) (k := 5) (x := "script") (CX := fun _ => CX0) (sp := fun w => sp_law (K w.params)) hn (by decide) hdf ⟨rfl, by decide, by decide⟩ hY F (fun _ _ a ns hl _ hS => ⟨a, ns, rfl, hS, hl, fun _ => rfl⟩) fun _ _ _ _ _ z => z
end Pf
open PySem PySem.W PyProof.Rows
set_option maxRecDepth 100000 in
set_option maxHeartbeats 0 in
theorem PySem.Challenge.cw_heapgame_k02_texts_of_layouts_holds : PySem.Challenge.rw_heapgame_k02_texts_of_layouts.Holds := by
  w_on; o_law; k_head; (case hw => w_witness2)
  k_fill
  refine Pf.walk (l := PySem.Challenge.rw_heapgame_k02_texts_of_layouts) rfl rfl (fun w h Y => PySem.W.kIn_of Y) ?F
  case F =>
    intro w mg fa h KX G hmg
    refine' Pf.all_mk KX G hmg ?a1 ?l1 ?c1 ?k1 ?a2 ?l2 ?c2 ?k2 ?a3 ?l3 ?c3 ?k3 ?a4 ?l4 ?c4 ?k4 ?a5 ?l5 ?c5 ?k5 ?a6 ?l6 ?c6 ?k6 ?a7 ?l7 ?c7 ?k7 ?a8 ?l8 ?c8 ?k8 ?a9 ?l9 ?c9 ?k9 ?a10 ?l10 ?c10 ?k10 ?a11 ?l11 ?c11 ?k11 ?a12 ?l12 ?c12 ?k12 ?a13 ?l13 ?c13 ?k13 ?z_FREE ?z_LETTERS ?z_bool ?z_enumerate ?z_int ?z_isinstance ?z_len ?z_list ?z_range ?z_tuple ?ya_HeapgameError ?ye_HeapgameError ?yh_HeapgameError ?yt_HeapgameError ?xa_TextError ?xl_TextError ?xs_TextError ?xe_TextError ?xt_TextError ?xk_TextError ?xi_TextError ?xf_TextError ?xn_TextError ?xL_TextError ?xc_TextError ?xr_TextError ?xv_TextError ?xh_TextError ?xw_TextError ?xg_TextError ?xm_TextError ?xu_TextError ?xV_TextError ?xo_TextError ?xz_TextError ?xA_TextError ?xG_TextError ?xd_TextError ?xy_TextError
    (case a1 => k_is)
    (case l1 => k_is)
    (case c1 => k_is)
    (case k1 => k_is)
    (case a2 => k_is)
    (case l2 => k_is)
    (case c2 => k_is)
    (case k2 => k_is)
    (case a3 => k_is)
    (case l3 => k_is)
    (case c3 => k_is)
    (case k3 => k_is)
    (case a4 => k_is)
    (case l4 => k_is)
    (case c4 => k_is)
    (case k4 => k_is)
    (case a5 => k_is)
    (case l5 => k_is)
    (case c5 => k_is)
    (case k5 => k_is)
    (case a6 => k_is)
    (case l6 => k_is)
    (case c6 => k_is)
    (case k6 => k_is)
    (case a7 => k_is)
    (case l7 => k_is)
    (case c7 => k_is)
    (case k7 => k_is)
    (case a8 => k_is)
    (case l8 => k_is)
    (case c8 => k_is)
    (case k8 => k_is)
    (case a9 => k_is)
    (case l9 => k_is)
    (case c9 => k_is)
    (case k9 => k_is)
    (case a10 => k_is)
    (case l10 => k_is)
    (case c10 => k_is)
    (case k10 => k_is)
    (case a11 => k_is)
    (case l11 => k_is)
    (case c11 => k_is)
    (case k11 => k_is)
    (case a12 => k_is)
    (case l12 => k_is)
    (case c12 => k_is)
    (case k12 => k_is)
    (case a13 => k_is)
    (case l13 => k_is)
    (case c13 => k_is)
    (case k13 => k_is)
    (case z_FREE => k_is)
    (case z_LETTERS => k_is)
    (case z_bool => k_is)
    (case z_enumerate => k_is)
    (case z_int => k_is)
    (case z_isinstance => k_is)
    (case z_len => k_is)
    (case z_list => k_is)
    (case z_range => k_is)
    (case z_tuple => k_is)
    (case ya_HeapgameError => k_is)
    (case ye_HeapgameError => k_is)
    (case yh_HeapgameError => k_is)
    (case yt_HeapgameError => k_is)
    (case xa_TextError => k_is)
    (case xl_TextError => k_is)
    (case xs_TextError => k_is)
    (case xe_TextError => k_is)
    (case xt_TextError => k_is)
    (case xk_TextError => k_is)
    (case xi_TextError => k_is)
    (case xf_TextError => k_is)
    (case xn_TextError => k_is)
    (case xL_TextError => k_is)
    (case xc_TextError => k_is)
    (case xr_TextError => k_is)
    (case xv_TextError => rfl)
    (case xh_TextError => first | rfl | decide +kernel)
    (case xw_TextError => first | rfl | decide +kernel)
    (case xg_TextError => k_is)
    (case xm_TextError => k_is)
    (case xu_TextError => ks_is)
    (case xV_TextError => k_is)
    (case xo_TextError => k_is)
    (case xz_TextError => k_is)
    (case xA_TextError => k_is)
    (case xG_TextError => k_is)
    (case xd_TextError => k_is)
    (case xy_TextError => k_is)
