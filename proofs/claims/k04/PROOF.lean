import PyProof.Rows.All
import Wide.All
import OpenK.AllK
import Wide.FinOn
import HandS.ForMost
import HandS.TupLe
import HandS.Gcd
import HandS.IsInst
import HandS.SortInts
import HandS.SortRule
import HandS.Deep
import HandS.SortKw
import KE.DataMinMax
import KE.KEqSeq
import HandS.ExcInit
import HandS.Nested
import KE.KSuper
import KE.KExcSuper
import HandS.FStr
import HandS.WordsExc
import HandS.ExcField
import HandS.ExcIs
import PyProof.Rows.StrDigits
import HandS.Lambda
import KE.DataMinKey
import KE.KLam
import HandS.EndTab
import HandS.Defaults
import KE.KNest
import PySem.Challenge.RW_heapgame_k04_places_of_policies
set_option Elab.async false
set_option linter.all false
set_option maxRecDepth 100000
namespace Pf
open PySem L2
/-! ### a def that may be called -/
structure Cal (P : Program) (w : World) (K : PySem.W.Frag) (mg : Str → Option Value) (base : Heap) (x : Str) (k : Nat) (f : Addr) (fd : FuncData) (ps : List Str) (sp : Sp) : Prop where
  ok : FnOk P w K mg base CX0 k f fd ps sp
  mg : mg x = some (.ref f)
  (kp : PySem.W.keepIn K (.ref f) = true)
  b : Binds K fd ps []
/-- an expression asked for its truth -/
def tTru (K : PySem.W.Frag) (ta : TE) : TT := fun σ H R => ta σ H fun v h => ∃ c, TruV K v h c ∧ R c h
theorem pt_truthN {X : Cx} {a : Expr} {ta : TE} (ha : PE X a ta) (he : ∀ whole, isTrue a X.env whole = (do let v ← whole; standAt a.pos; holding [v] (truthy v)) := by intro _; rfl) : PT X a (tTru X.K ta) := pt_truth ha he
theorem room65 {A : Around} {k : Nat} (hr : Room (k + 1) A) : A.units + 65 < cLine := by have := hr.un; omega
/-! ### the readings, one step each -/
section
variable {K : PySem.W.Frag} {σ : St} {H : Hp} {Q : VK} {D : Ends} {ta tb te : TE} {t u : TS} {c : TT}
theorem r_seq (h : t { D with nx := u D } σ H) : tSeq t u D σ H := h
theorem r_seqA {g : TG} (h : te σ H fun x H1 => g x σ H1 (u D)) : tSeq (tAsg te g) u D σ H := h
theorem r_seqD (h : te σ H fun _ H1 => u D σ H1) : tSeq (tDrop te) u D σ H := h
theorem r_seqF {wi : TI} {g : TG} {tb : TS} (h : tFor wi g tb { D with nx := u D } σ H) : tSeq (tFor wi g tb) u D σ H := h
theorem r_seqN (h : u D σ H) : tSeq tNext u D σ H := h
theorem r_seqG (h : ∀ R : St → Hp → Prop, (∀ σ H, u D σ H → R σ H) → t { D with nx := R } σ H) : tSeq t u D σ H := h (u D) fun _ _ x => x
theorem r_asg {g : TG} (h : te σ H fun x H1 => g x σ H1 D.nx) : tAsg te g D σ H := h
theorem r_drop (h : te σ H fun _ H1 => D.nx σ H1) : tDrop te D σ H := h
theorem r_ret (h : te σ H D.rt) : tRet te D σ H := h
theorem r_ifS (h : c σ H fun b H1 => if b = true then t D σ H1 else u D σ H1) : tIfS c t u D σ H := h
theorem r_next (h : D.nx σ H) : tNext D σ H := h
theorem r_cont (h : D.ct σ H) : tCont D σ H := h
theorem r_name {i : Nat} {v : V} {q : St → Hp → Prop} (h : q (σ.set i (some v)) H) : gName i v σ H q := h
theorem r_gnil {q : St → Hp → Prop} (h : q σ H) : gNil [] σ H q := ⟨rfl, h⟩
theorem r_gcons {t : TG} {u : TGs} {v : V} {vs : List V} {q : St → Hp → Prop} (h : t v σ H fun σ' H' => u vs σ' H' q) : gCons t u (v :: vs) σ H q := ⟨v, vs, rfl, h⟩
theorem r_gtup {n : Nat} {t : TGs} {a : Addr} {xs : List V} {q : St → Hp → Prop} (h1 : SqT K H a xs) (h2 : xs.length = n) (h : t xs σ H q) : gTup K n t (.ref a) σ H q := ⟨a, xs, rfl, h1, h2, h⟩
theorem r_gsub {to ti : TE} {t : TSet} {v : V} {q : St → Hp → Prop} (h : to σ H fun o H1 => ti σ H1 fun i H2 => t o i v H2 fun H3 => q σ H3) : gSub to ti t v σ H q := h
theorem r_setL0 {p : Addr} {xs : List V} {k : Int} {j : Nat} {v : V} {q : Hp → Prop} (h1 : H p = some (.lst xs)) (h2 : ixN xs.length k = some j) (h : q (upd H p (.lst (xs.set j v)))) : rSetL (.ref p) (.int k) v H q := ⟨p, xs, k, j, rfl, rfl, h1, h2, h⟩
theorem r_var {i : Nat} {v : V} (h : σ[i]? = some (some v)) (q : Q v H) : tVar i σ H Q := ⟨v, h, q⟩
theorem r_c {v : V} (q : Q v H) : tC v σ H Q := q
theorem r_op {r : R2} (h : ta σ H fun x H1 => tb σ H1 fun y H2 => r x y H2 Q) : tOp r ta tb σ H Q := h
theorem r_un {r : V → Hp → VK → Prop} (h : ta σ H fun x H1 => r x H1 Q) : tUn r ta σ H Q := h
theorem r_I0 {g : Int → Int → V} {i j : Int} (q : Q (g i j) H) : rI0 g (.int i) (.int j) H Q := ⟨i, j, rfl, rfl, q⟩
theorem r_I {C : Int → Int → Prop} {g : Int → Int → V} {i j : Int} (hc : C i j) (q : Q (g i j) H) : rI C g (.int i) (.int j) H Q := ⟨i, j, rfl, rfl, hc, q⟩
theorem r_U {g : Int → V} {i : Int} (q : Q (g i) H) : rU g (.int i) H Q := ⟨i, rfl, q⟩
theorem r_eqI {i j : Int} (q : Q (.bl (decide (i = j))) H) : rEq (.int i) (.int j) H Q := ⟨rfl, by rw [show decide (V.int i = V.int j) = decide (i = j) by simp]; exact q⟩
theorem r_neI {i j : Int} (q : Q (.bl (!decide (i = j))) H) : rNe (.int i) (.int j) H Q := ⟨rfl, by rw [show decide (V.int i = V.int j) = decide (i = j) by simp]; exact q⟩
theorem r_eqB {i j : Bool} (q : Q (.bl (decide (i = j))) H) : rEq (.bl i) (.bl j) H Q := ⟨rfl, by rw [show decide (V.bl i = V.bl j) = decide (i = j) by simp]; exact q⟩
theorem r_neB {i j : Bool} (q : Q (.bl (!decide (i = j))) H) : rNe (.bl i) (.bl j) H Q := ⟨rfl, by rw [show decide (V.bl i = V.bl j) = decide (i = j) by simp]; exact q⟩
theorem r_eq {x y : V} (hs : scal x y = true) (q : Q (.bl (decide (x = y))) H) : rEq x y H Q := ⟨hs, q⟩
theorem r_ne {x y : V} (hs : scal x y = true) (q : Q (.bl (!decide (x = y))) H) : rNe x y H Q := ⟨hs, q⟩
theorem r_test {q : Bool → Hp → Prop} (h : te σ H fun x H' => ∃ k, x = .bl k ∧ q k H') : tTest te σ H q := h
theorem r_B {q : Bool → Hp → Prop} (h : te σ H fun x H' => ∃ k, x = .bl k ∧ q k H') : tB te σ H q := h
theorem r_bl {b : Bool} {q : Bool → Prop} (h : q b) : ∃ k, V.bl b = .bl k ∧ q k := ⟨b, rfl, h⟩
theorem r_rfl {x : St} {A : Prop} (q : A) : x = x ∧ A := ⟨rfl, q⟩
theorem r_eqA {x y : St} {A : Prop} (h : x = y) (q : A) : x = y ∧ A := ⟨h, q⟩
theorem r_wipe {σ1 σ2 : St} {vs : List Nat} {A : Prop} (h : wipe σ1 vs = wipe σ2 vs) (q : A) : wipe σ1 vs = wipe σ2 vs ∧ A := ⟨h, q⟩
theorem r_bl2 {a b : Bool} {A : Bool → Bool → Prop} (h : A a b) : ∃ x y, V.bl a = .bl x ∧ V.bl b = .bl y ∧ A x y := ⟨a, b, rfl, rfl, h⟩
theorem r_yes {q : Bool → Hp → Prop} (h : q true H) : tYes σ H q := h
theorem r_and {a b : TT} {q : Bool → Hp → Prop} (h : a σ H fun c H1 => if c = true then b σ H1 q else q false H1) : L2.tAnd a b σ H q := h
theorem r_or {a b : TT} {q : Bool → Hp → Prop} (h : a σ H fun c H1 => if c = true then q true H1 else b σ H1 q) : L2.tOr a b σ H q := h
theorem r_not {a : TT} {q : Bool → Hp → Prop} (h : a σ H fun c H1 => q (!c) H1) : L2.tNot a σ H q := h
theorem r_andV {a b : TE} (h : a σ H fun x H1 => ∃ c, x = .bl c ∧ if c = true then b σ H1 Q else Q (.bl false) H1) : tAndV a b σ H Q := h
theorem r_orV {a b : TE} (h : a σ H fun x H1 => ∃ c, x = .bl c ∧ if c = true then Q (.bl true) H1 else b σ H1 Q) : tOrV a b σ H Q := h
theorem r_notV {a : TE} (h : a σ H fun x H1 => ∃ c, x = .bl c ∧ Q (.bl (!c)) H1) : tNotV a σ H Q := h
theorem r_ifE {c : TT} (h : c σ H fun b H1 => if b = true then ta σ H1 Q else tb σ H1 Q) : tIf c ta tb σ H Q := h
theorem r_nil {q : List V → Hp → Prop} (h : q [] H) : tNil σ H q := h
theorem r_cons {tr : TA} {q : List V → Hp → Prop} (h : ta σ H fun x H1 => tr σ H1 fun xs H2 => q (x :: xs) H2) : tCons ta tr σ H q := h
theorem r_tup {ts : TA} (h : ts σ H fun xs H1 => xs.length ≤ sizeLine ∧ ∀ p, H1 p = none → Q (.ref p) (upd H1 p (.tup xs))) : tTup ts σ H Q := h
theorem r_lst {ts : TA} (h : ts σ H fun xs H1 => xs.length ≤ sizeLine ∧ ∀ p, H1 p = none → Q (.ref p) (upd H1 p (.lst xs))) : tLst ts σ H Q := h
theorem r_small {xs : List V} {A : Prop} (h : A) (hs : xs.length ≤ sizeLine) : xs.length ≤ sizeLine ∧ A := ⟨hs, h⟩
theorem r_CB {r : List V → Hp → VK → Prop} {ts : TA} (h : ts σ H fun vs H1 => r vs H1 Q) : tCB r ts σ H Q := h
theorem r_call {sp : Sp} {E : XK} {ts : TA} (h : ts σ H fun vs H1 => sp vs H1 Q E) : tCall sp [] E ts σ H Q := by
  have e : (fun vs H1 => sp (vs ++ []) H1 Q E) = fun vs H1 => sp vs H1 Q E := by
    funext vs H1
    rw [List.append_nil]
  show ts σ H fun vs H1 => sp (vs ++ []) H1 Q E
  rw [e]
  exact h
theorem r_bm {T : String} {r : V → List V → Hp → VK → Prop} {ts : TA} (h : te σ H fun x H1 => tyV K T x H1 ∧ ts σ H1 fun xs H2 => r x xs H2 Q) : tBM K T r te ts σ H Q := h
theorem r_bm0 {T : String} {r : V → List V → Hp → VK → Prop} (h : te σ H fun x H1 => tyV K T x H1 ∧ r x [] H1 Q) : tBM0 K T r te σ H Q := h
theorem ty_lst {p : Addr} {xs : List V} (h : H p = some (.lst xs)) : tyV K "list" (.ref p) H := .inl ⟨rfl, _, .inl (.inl h)⟩
theorem r_app0 {p : Addr} {xs : List V} {y : V} (h : H p = some (.lst xs)) (hs : xs.length < sizeLine) (q : Q .non (upd H p (.lst (xs ++ [y])))) : rAppend (.ref p) [y] H Q := ⟨p, xs, y, rfl, rfl, h, hs, q⟩
theorem r_ixL {p : Addr} {xs : List V} {i : Int} {v : V} (h : SqL K H p xs) (ha : atI xs i = some v) (q : Q v H) : rIxL K (.ref p) (.int i) H Q := ⟨p, xs, i, v, rfl, rfl, h, ha, q⟩
theorem r_ixT {p : Addr} {xs : List V} {i : Int} {v : V} (h : SqT K H p xs) (ha : atI xs i = some v) (q : Q v H) : rIxT K (.ref p) (.int i) H Q := ⟨p, xs, i, v, rfl, rfl, h, ha, q⟩
theorem r_int {i : Int} {A : Int → Prop} {B : Prop} (q : A i) : (∃ j, [V.int i] = [V.int j] ∧ A j) ∨ B := .inl ⟨i, rfl, q⟩
theorem r_lenL {p : Addr} {xs : List V} {A : Addr → List V → Prop} (h : SqL K H p xs) (q : A p xs) : ∃ p' ys, [V.ref p] = [V.ref p'] ∧ (SqL K H p' ys ∨ SqT K H p' ys) ∧ A p' ys := ⟨p, xs, rfl, .inl h, q⟩
theorem r_lenT {p : Addr} {xs : List V} {A : Addr → List V → Prop} (h : SqT K H p xs) (q : A p xs) : ∃ p' ys, [V.ref p] = [V.ref p'] ∧ (SqL K H p' ys ∨ SqT K H p' ys) ∧ A p' ys := ⟨p, xs, rfl, .inr h, q⟩
theorem r_i2 {i j : Int} {A : Int → Int → Prop} (q : A i j) : ∃ i' j', [V.int i, V.int j] = [V.int i', V.int j'] ∧ A i' j' := ⟨i, j, rfl, q⟩
theorem r_i1 {i : Int} {A : Int → Prop} (q : A i) : ∃ i', [V.int i] = [V.int i'] ∧ A i' := ⟨i, rfl, q⟩
theorem r_ite {p A B : Prop} [Decidable p] (h1 : p → A) (h2 : ¬ p → B) : if decide p = true then A else B := by
  by_cases h : p
  · rw [if_pos (decide_eq_true h)]
    exact h1 h
  · rw [if_neg (by simp [h])]
    exact h2 h
theorem r_iteN {p A B : Prop} [Decidable p] (h1 : ¬ p → A) (h2 : p → B) : if (!decide p) = true then A else B := by
  by_cases h : p
  · rw [if_neg (by simp [h])]
    exact h2 h
  · rw [if_pos (by simp [h])]
    exact h1 h
theorem r_iteB {b : Bool} {A B : Prop} (h1 : b = true → A) (h2 : b = false → B) : if b = true then A else B := by
  cases b
  · exact h2 rfl
  · exact h1 rfl
/-! ### loops -/
theorem r_rng1 {j : Int} {A : Int → Prop} (h1 : -(2 ^ 62) ≤ j) (h2 : j < 2 ^ 62) (h : A j) : ∃ j' : Int, [V.int j] = [V.int j'] ∧ -(2 ^ 62) ≤ j' ∧ j' < 2 ^ 62 ∧ A j' := ⟨j, rfl, h1, h2, h⟩
theorem r_rng2 {i j : Int} {A : Int → Int → Prop} (h1 : -(2 ^ 62) ≤ i ∧ i < 2 ^ 62 ∧ -(2 ^ 62) ≤ j ∧ j < 2 ^ 62) (h : A i j) : ∃ i' j' : Int, [V.int i, V.int j] = [V.int i', V.int j'] ∧ (-(2 ^ 62) ≤ i' ∧ i' < 2 ^ 62 ∧ -(2 ^ 62) ≤ j' ∧ j' < 2 ^ 62) ∧ A i' j' := ⟨i, j, rfl, h1, h⟩
theorem r_sl {r : V → Option Int → Option Int → Hp → VK → Prop} {tl th : TO} (h : te σ H fun x H1 => tl σ H1 fun l H2 => th σ H2 fun u H3 => r x l u H3 Q) : tSl r te tl th σ H Q := h
theorem r_noPart {q : Option Int → Hp → Prop} (h : q none H) : tNoPart σ H q := h
theorem r_part {q : Option Int → Hp → Prop} (h : te σ H fun x H1 => ∃ i, x = .int i ∧ q (some i) H1) : tPart te σ H q := h
theorem r_int1 {i : Int} {A : Int → Prop} (h : A i) : ∃ j, V.int i = .int j ∧ A j := ⟨i, rfl, h⟩
theorem r_slT {a : Addr} {xs : List V} {lo hi : Option Int} (h : SqT K H a xs) (hn : ¬ (HT.sIx xs.length 0 lo = 0 ∧ HT.sIx xs.length xs.length hi = xs.length)) (q : ∀ p, H p = none → Q (.ref p) (upd H p (.tup (cutV xs lo hi)))) : rSlT K (.ref a) lo hi H Q := ⟨a, xs, rfl, h, hn, q⟩
theorem r_slL {a : Addr} {xs : List V} {lo hi : Option Int} (h : SqL K H a xs) (q : ∀ p, H p = none → Q (.ref p) (upd H p (.lst (cutV xs lo hi)))) : rSlL K (.ref a) lo hi H Q := ⟨a, xs, rfl, h, q⟩
theorem r_tru {K : PySem.W.Frag} {q : Bool → Hp → Prop} (h : te σ H fun x H' => ∃ k, TruV K x H' k ∧ q k H') : tTru K te σ H q := h
theorem r_truL {p : Addr} {xs : List V} {q : Bool → Prop} (h : SqL K H p xs) (a : q (!xs.isEmpty)) : ∃ k, TruV K (.ref p) H k ∧ q k := ⟨_, .inl ⟨xs, h, rfl⟩, a⟩
/-- a walk: each turn leads on or there is none left; R goes down in its second place -/
def WkH (J : It) (Fin : Hp → Prop) (Turns : V → Hp → (Hp → Prop) → Prop) (h₀ : Hp) : Prop :=
  ∃ R : Nat → Nat → Hp → Prop, (∃ c, R 0 c h₀) ∧ ∀ i c h, R i c h → (J.stop i h ∧ Fin h) ∨ (J.go i h ∧ ∃ B : Hp → Prop, (∀ h', B h' → ∃ c', c' < c ∧ R (i + 1) c' h') ∧ ∀ y h', J.yld i h y h' → Turns y h' B)
/-- the same, with slots -/
def WkS (J : It) (Fin : St → Hp → Prop) (Turns : V → St → Hp → (St → Hp → Prop) → Prop) (s₀ : St) (h₀ : Hp) : Prop :=
  ∃ R : Nat → Nat → St → Hp → Prop, (∃ c, R 0 c s₀ h₀) ∧ ∀ i c s h, R i c s h → (J.stop i h ∧ Fin s h) ∨ (J.go i h ∧ ∃ B : St → Hp → Prop, (∀ s' h', B s' h' → ∃ c', c' < c ∧ R (i + 1) c' s' h') ∧ ∀ y h', J.yld i h y h' → Turns y s h' B)
/-- a walk of n turns: P i holds ahead of the i-th one -/
theorem walkH {J : It} {n : Nat} {h₀ : Hp} {Fin : Hp → Prop} {Turns : V → Hp → (Hp → Prop) → Prop} (P : Nat → Hp → Prop) (start : P 0 h₀) (last : ∀ h, P n h → J.stop n h ∧ Fin h)
    (next : ∀ i h, i < n → P i h → J.go i h ∧ ∀ y h', J.yld i h y h' → Turns y h' (P (i + 1))) : WkH J Fin Turns h₀ := by
  refine ⟨fun i c h => i ≤ n ∧ i + c = n ∧ P i h, ⟨n, Nat.zero_le n, Nat.zero_add n, start⟩, ?_⟩
  rintro i c h ⟨le, sum, p⟩
  rcases Nat.lt_or_ge i n with lt | ge
  · obtain ⟨g, turns⟩ := next i h lt p
    exact Or.inr ⟨g, P (i + 1), fun h' p' => ⟨c - 1, by omega, lt, by omega, p'⟩, turns⟩
  · obtain rfl : i = n := by omega
    exact Or.inl (last h p)
theorem walkS {J : It} {n : Nat} {s₀ : St} {h₀ : Hp} {Fin : St → Hp → Prop} {Turns : V → St → Hp → (St → Hp → Prop) → Prop} (P : Nat → St → Hp → Prop) (start : P 0 s₀ h₀) (last : ∀ s h, P n s h → J.stop n h ∧ Fin s h)
    (next : ∀ i s h, i < n → P i s h → J.go i h ∧ ∀ y h', J.yld i h y h' → Turns y s h' (P (i + 1))) : WkS J Fin Turns s₀ h₀ := by
  refine ⟨fun i c s h => i ≤ n ∧ i + c = n ∧ P i s h, ⟨n, Nat.zero_le n, Nat.zero_add n, start⟩, ?_⟩
  rintro i c s h ⟨le, sum, p⟩
  rcases Nat.lt_or_ge i n with lt | ge
  · obtain ⟨g, turns⟩ := next i s h lt p
    exact Or.inr ⟨g, P (i + 1), fun s' h' p' => ⟨c - 1, by omega, lt, by omega, p'⟩, turns⟩
  · obtain rfl : i = n := by omega
    exact Or.inl (last s h p)
/-- over a range -/
theorem w_range {lo : Int} {n : Nat} {H0 : Hp} {Qd : Hp → Prop} {Body : V → Hp → (Hp → Prop) → Prop} (P : Nat → Hp → Prop) (start : P 0 H0) (hs : ∀ i H, i < n → P i H → Body (.int (lo + i)) H (P (i + 1))) (hd : ∀ H, P n H → Qd H) : WkH (Itr lo n) Qd Body H0 :=
  walkH P start (fun h p => And.intro (Nat.le_refl n) (hd h p)) fun i h lt p => And.intro lt fun y h' yl => by
    rcases yl with ⟨ey, eh⟩
    rw [ey, eh]
    exact hs i h lt p
/-- over a list -/
theorem w_list {K : PySem.W.Frag} {a : Addr} {xs : List V} {H0 : Hp} {Qd : Hp → Prop} {Body : V → Hp → (Hp → Prop) → Prop} (P : Nat → Hp → Prop) (start : P 0 H0) (hl : ∀ i H, i ≤ xs.length → P i H → SqL K H a xs) (hs : ∀ i x H, xs[i]? = some x → P i H → Body x H (P (i + 1))) (hd : ∀ H, P xs.length H → Qd H) : WkH (Itl K a) Qd Body H0 :=
  walkH P start (fun h p => And.intro ⟨xs, hl _ h (Nat.le_refl _) p, Nat.le_refl _⟩ (hd h p)) fun i h lt p => And.intro ⟨xs, xs[i], hl i h (Nat.le_of_lt lt) p, List.getElem?_eq_getElem lt⟩ fun y h' yl => by
    rcases yl with ⟨eh, at_⟩
    rw [eh]
    exact hs i y h (at_ xs (hl i h (Nat.le_of_lt lt) p)) p
theorem r_forS {wi : TI} {g : TG} {tb : TS} (h : wi σ H fun J h1 => WkS J D.nx (fun y s h2 B => g y s h2 (tb { D with nx := B, ct := B, bk := D.nx })) σ h1) : tFor wi g tb D σ H := h
theorem r_lc {wi : TI} {g : TG} {tt : TT} {vs : List Nat} (h : wi σ H fun J h1 => ∀ D, h1 D = none → WkH J (fun h2 => Q (.ref D) h2) (fun y h2 B => g y (wipe σ vs) h2 fun s h3 => wipe s vs = wipe σ vs ∧ tt s h3 fun b h4 => if b = true then te s h4 fun z h5 => ∃ acc, h5 D = some (.lst acc) ∧ acc.length < sizeLine ∧ B (upd h5 D (.lst (acc ++ [z]))) else B h4) (upd h1 D (.lst []))) :
    tLc wi g tt te vs σ H Q := h
theorem r_lc2 {wi : TI} {g : TG} {tt : TT} {wi1 : TI} {g1 : TG} {tt1 : TT} {vs vs1 : List Nat} (h : wi σ H fun J h1 => ∀ D, h1 D = none → WkH J (fun h2 => Q (.ref D) h2) (fun y h2 B => g y (wipe σ vs) h2 fun s h3 => wipe s vs = wipe σ vs ∧ tt s h3 fun b h4 =>
      if b = true then wi1 s h4 fun J1 h5 => WkH J1 B (fun y1 h6 B1 => g1 y1 (wipe s vs1) h6 fun s1 h7 => wipe s1 vs1 = wipe s vs1 ∧ tt1 s1 h7 fun b1 h8 => if b1 = true then te s1 h8 fun z h9 => ∃ acc, h9 D = some (.lst acc) ∧ acc.length < sizeLine ∧ B1 (upd h9 D (.lst (acc ++ [z]))) else B1 h8) h5 else B h4) (upd h1 D (.lst []))) :
    tLc2 wi g tt wi1 g1 tt1 te vs vs1 σ H Q := h
theorem r_ckw {r : List V → List V → Hp → VK → Prop} {ts tk : TA} (h : ts σ H fun vs H1 => tk σ H1 fun zs H2 => r vs zs H2 Q) : tCKw r ts tk σ H Q := h
theorem r_iR1 {tA : TA} {R : It → Hp → Prop} (h : tA σ H fun vs H1 => ∃ j : Int, vs = [V.int j] ∧ -(2 ^ 62) ≤ j ∧ j < 2 ^ 62 ∧ R (Itr 0 j.toNat) H1) : iRng1 tA σ H R := h
theorem r_iR2 {tA : TA} {R : It → Hp → Prop} (h : tA σ H fun vs H1 => ∃ i j : Int, vs = [V.int i, V.int j] ∧ (-(2 ^ 62) ≤ i ∧ i < 2 ^ 62 ∧ -(2 ^ 62) ≤ j ∧ j < 2 ^ 62) ∧ R (Itr i (j - i).toNat) H1) : iRng2 tA σ H R := h
theorem r_iL {tl : TE} {R : It → Hp → Prop} (h : tl σ H fun x H1 => ∃ a, x = V.ref a ∧ (∃ xs, SqL K H1 a xs) ∧ R (Itl K a) H1) : iList K tl σ H R := h
theorem r_iL2 {a : Addr} {xs : List V} {A : Addr → Prop} (h : SqL K H a xs) (q : A a) : ∃ a', V.ref a = V.ref a' ∧ (∃ xs, SqL K H a' xs) ∧ A a' := ⟨a, rfl, ⟨xs, h⟩, q⟩
end
theorem at_int {ns : List Int} {i : Int} (h0 : 0 ≤ i) (h1 : i < (ns.length : Int)) : atI (ns.map V.int) i = some (.int (ns.getD i.toNat 0)) := by
  obtain ⟨j, rfl⟩ : ∃ j : Nat, i = (j : Int) := ⟨i.toNat, by omega⟩
  have hj : j < ns.length := by omega
  refine atI_nat ?_
  rw [List.getElem?_map, List.getElem?_eq_getElem hj, Int.toNat_natCast, List.getD_eq_getElem?_getD, List.getElem?_eq_getElem hj]
  rfl
/-! ### heaps -/
theorem same_upd {H : Hp} {p : Addr} {o : HO} (new : H p = none) : Same H (upd H p o) := fun a u at_ => (upd_ne (ne_of_none at_ new)).trans at_
/-- all that is tracked is as it was, but what stands at b -/
def But (b : Addr) (H H' : Hp) : Prop := ∀ a o, a ≠ b → H a = some o → H' a = some o
theorem But.refl (b : Addr) (H : Hp) : But b H H := fun _ _ _ h => h
theorem But.trans {b : Addr} {H H1 H2 : Hp} (x : But b H H1) (y : But b H1 H2) : But b H H2 := fun a o n e => y a o n (x a o n e)
theorem But.of {b : Addr} {H H' : Hp} (x : Same H H') : But b H H' := fun a o _ e => x a o e
theorem But.upd {b : Addr} {H : Hp} {o : HO} : But b H (upd H b o) := fun a u n e => by rw [upd_ne n]; exact e
theorem But.same {b : Addr} {H H' : Hp} {o : HO} (x : But b H H') (h : H b = some o) (h' : H' b = some o) : Same H H' := fun a u e => by
  by_cases q : a = b
  · rw [q, h] at e
    rw [q, h']
    exact e
  · exact x a u q e
/-- from outside, what is made and then changed was never there -/
theorem But.new {b : Addr} {H0 H H' : Hp} (x : But b H H') (n : H0 b = none) (s : Same H0 H) : Same H0 H' := fun a u e => x a u (ne_of_none e n) (s a u e)
theorem But.seq {K : PySem.W.Frag} {b : Addr} {H H' : Hp} {a : Addr} {xs : List V} (e : But b H H') (n : a ≠ b) (h : SqL K H a xs) : SqL K H' a xs := by
  rcases h with (z | ⟨u, z⟩) | z
  · exact .inl (.inl (e _ _ n z))
  · exact .inl (.inr ⟨u, e _ _ n z⟩)
  · exact .inr z
theorem But.free {b : Addr} {H H' : Hp} {o : HO} (e : But b H H') (hb : H' b = some o) {l : Addr} (h : H' l = Option.none) : H l = Option.none := by
  cases q : H l with
  | none => rfl
  | some u =>
    by_cases n : l = b
    · rw [n, hb] at h
      cases h
    · rw [e l u n q] at h
      cases h
/-! ### the box of draws: [digits, the next one's place] -/
def Bx (H : Hp) (b d : Addr) : Prop := ∃ (ds : List Int) (at_ : Nat), H b = some (.lst [.ref d, .int at_]) ∧ H d = some (.lst (ds.map V.int)) ∧ d ≠ b
section
variable {H H' : Hp} {b d a p : Addr}
theorem Bx.same (h : Bx H b d) (s : Same H H') : Bx H' b d := let ⟨ds, k, e1, e2, n⟩ := h; ⟨ds, k, s _ _ e1, s _ _ e2, n⟩
theorem Bx.but (h : Bx H b d) (s : But p H H') (nb : p ≠ b) (nd : p ≠ d) : Bx H' b d := let ⟨ds, k, e1, e2, n⟩ := h; ⟨ds, k, s _ _ nb.symm e1, s _ _ nd.symm e2, n⟩
theorem Bx.ne (h : Bx H b d) (n : H a = none) : a ≠ b := let ⟨_, _, e, _⟩ := h; fun q => by rw [q, e] at n; cases n
theorem Bx.neD (h : Bx H b d) (n : H a = none) : a ≠ d := let ⟨_, _, _, e, _⟩ := h; fun q => by rw [q, e] at n; cases n
theorem Bx.neT {xs : List V} (h : Bx H b d) (n : H a = some (.tup xs)) : a ≠ b := let ⟨_, _, e, _⟩ := h; fun q => by rw [q, e] at n; cases n
theorem Bx.free (h : Bx H' b d) (e : But b H H') (n : H' a = none) : H a = none := let ⟨_, _, q, _⟩ := h; e.free q n
end
/-! ### the rules that change the heap, the new heap a letter -/
section
variable {K : PySem.W.Frag} {σ : St} {H : Hp} {Q : VK}
theorem r_setL {p : Addr} {xs : List V} {k : Int} {j : Nat} {v : V} {q : Hp → Prop} (h1 : H p = some (.lst xs)) (h2 : ixN xs.length k = some j) (h : ∀ H', H' p = some (.lst (xs.set j v)) → But p H H' → q H') : rSetL (.ref p) (.int k) v H q :=
  ⟨p, xs, k, j, rfl, rfl, h1, h2, h _ upd_same But.upd⟩
theorem r_app {p : Addr} {xs : List V} {y : V} (h : H p = some (.lst xs)) (hs : xs.length < sizeLine) (q : ∀ H', H' p = some (.lst (xs ++ [y])) → But p H H' → Q .non H') : rAppend (.ref p) [y] H Q := ⟨p, xs, y, rfl, rfl, h, hs, q _ upd_same But.upd⟩
@[elab_as_elim] theorem upd_new {p : Addr} {o : HO} {motive : Hp → Prop} (np : H p = none) (h : ∀ H', H' p = some o → Same H H' → motive H') : motive (upd H p o) := h _ upd_same (same_upd np)
end
theorem drop_get {α : Type} {xs : List α} {i : Nat} {x : α} (h : xs[i]? = some x) : xs.drop i = x :: xs.drop (i + 1) := by
  obtain ⟨hi, rfl⟩ := List.getElem?_eq_some_iff.mp h
  exact List.drop_eq_getElem_cons hi
theorem r_cat {H : Hp} {Q : VK} {l b : Addr} {xs zs : List V} (h1 : H l = some (.lst xs)) (h2 : H b = some (.lst zs)) (hs : xs.length + zs.length ≤ sizeLine) (q : ∀ p, H p = none → Q (.ref p) (upd H p (.lst (xs ++ zs)))) : rCat (.ref l) (.ref b) H Q :=
  ⟨l, b, xs, zs, rfl, rfl, h1, h2, hs, q⟩
/-! ### lists of tuples -/
section
variable {α : Type}
/-- at ts stand tuples, f of the xs -/
def TL (f : α → List V) (H : Hp) (ts : List Addr) (xs : List α) : Prop := ts.length = xs.length ∧ ∀ (i : Nat) (t : Addr), ts[i]? = some t → ∃ x, xs[i]? = some x ∧ H t = some (.tup (f x))
/-- at a stands a list of tuples, f of the xs -/
def LT (f : α → List V) (H : Hp) (a : Addr) (xs : List α) : Prop := ∃ ts : List Addr, H a = some (.lst (ts.map V.ref)) ∧ TL f H ts xs
variable {f : α → List V} {H H' : Hp} {ts : List Addr} {xs : List α} {a b : Addr}
theorem TL.nil : TL f H [] ([] : List α) := ⟨rfl, fun i t h => by simp at h⟩
theorem TL.same (h : TL f H ts xs) (s : Same H H') : TL f H' ts xs := ⟨h.1, fun i t e => let ⟨x, e1, e2⟩ := h.2 i t e; ⟨x, e1, s _ _ e2⟩⟩
theorem TL.but {o : List V} (h : TL f H ts xs) (s : But b H H') (hb : H b = some (.lst o)) : TL f H' ts xs := ⟨h.1, fun i t e => let ⟨x, e1, e2⟩ := h.2 i t e; ⟨x, e1, s _ _ (ne_of e2 hb (by intro z; cases z)) e2⟩⟩
theorem TL.snoc {t : Addr} {x : α} (h : TL f H ts xs) (ht : H t = some (.tup (f x))) : TL f H (ts ++ [t]) (xs ++ [x]) := by
  refine ⟨by rw [List.length_append, List.length_append, h.1]; rfl, fun i u e => ?_⟩
  by_cases hi : i < ts.length
  · rw [List.getElem?_append_left hi] at e
    obtain ⟨y, e1, e2⟩ := h.2 i u e
    exact ⟨y, by rw [List.getElem?_append_left (by rw [← h.1]; exact hi)]; exact e1, e2⟩
  · rw [List.getElem?_append_right (by omega)] at e
    have hi0 : i - ts.length = 0 := by
      by_cases q : i - ts.length = 0
      · exact q
      · rw [List.getElem?_eq_none (by simp; omega)] at e
        cases e
    rw [hi0] at e
    have e' : t = u := Option.some.inj e
    subst e'
    exact ⟨x, by rw [List.getElem?_append_right (by rw [← h.1]; omega), ← h.1, hi0]; rfl, ht⟩
theorem TL.get (h : TL f H ts xs) {i : Nat} {x : α} (e : xs[i]? = some x) : ∃ t, ts[i]? = some t ∧ H t = some (.tup (f x)) := by
  have hi : i < ts.length := by rw [h.1]; exact (List.getElem?_eq_some_iff.mp e).1
  obtain ⟨y, e1, e2⟩ := h.2 i _ (List.getElem?_eq_getElem hi)
  rw [e] at e1
  cases e1
  exact ⟨_, List.getElem?_eq_getElem hi, e2⟩
/-- an item of the list, read -/
theorem TL.at (h : TL f H ts xs) {i : Int} (h0 : 0 ≤ i) (h1 : i < (xs.length : Int)) : ∃ x t, xs[i.toNat]? = some x ∧ atI (ts.map V.ref) i = some (.ref t) ∧ H t = some (.tup (f x)) := by
  have hi : i.toNat < xs.length := by omega
  obtain ⟨t, e1, e2⟩ := h.get (List.getElem?_eq_getElem hi)
  refine ⟨_, t, List.getElem?_eq_getElem hi, ?_, e2⟩
  have e : i = ((i.toNat : Nat) : Int) := by omega
  rw [e]
  refine atI_nat ?_
  rw [List.getElem?_map, e1]
  rfl
theorem snoc_of {β : Type} : ∀ {l : List β}, l ≠ [] → ∃ G g, l = G ++ [g]
  | [], h => absurd rfl h
  | [x], _ => ⟨[], x, rfl⟩
  | x :: y :: r, _ => by
    obtain ⟨G, g, e⟩ := snoc_of (l := y :: r) (by simp)
    exact ⟨x :: G, g, by rw [e]; rfl⟩
theorem TL.unsnoc {ys : List α} {y : α} (h : TL f H ts (ys ++ [y])) : ∃ (ts0 : List Addr) (tl : Addr), ts = ts0 ++ [tl] ∧ TL f H ts0 ys ∧ H tl = some (.tup (f y)) := by
  have hl := h.1
  simp only [List.length_append, List.length_cons, List.length_nil] at hl
  obtain ⟨ts0, tl, rfl⟩ : ∃ ts0 tl, ts = ts0 ++ [tl] := by
    have hne : ts ≠ [] := by intro e; rw [e] at hl; simp at hl
    exact snoc_of hne
  simp only [List.length_append, List.length_cons, List.length_nil] at hl
  have hl' : ts0.length = ys.length := by omega
  refine ⟨ts0, tl, rfl, ⟨hl', fun i t e => ?_⟩, ?_⟩
  · have hi := (List.getElem?_eq_some_iff.mp e).1
    obtain ⟨x, e1, e2⟩ := h.2 i t (by rw [List.getElem?_append_left hi]; exact e)
    rw [List.getElem?_append_left (by omega)] at e1
    exact ⟨x, e1, e2⟩
  · obtain ⟨x, e1, e2⟩ := h.2 ts0.length tl (by rw [List.getElem?_append_right (Nat.le_refl _), Nat.sub_self]; rfl)
    rw [hl', List.getElem?_append_right (Nat.le_refl _), Nat.sub_self] at e1
    have e1' : y = x := Option.some.inj e1
    rw [e1']
    exact e2
theorem ixN_last (n : Nat) : ixN (n + 1) (-1) = some n := by
  unfold ixN
  rw [if_neg (by omega), if_pos (by omega)]
  congr 1
  omega
theorem set_last (ts : List Addr) (a b : Addr) : ((ts ++ [a]).map V.ref).set ts.length (V.ref b) = (ts ++ [b]).map V.ref := by
  rw [List.map_append, List.map_append, List.set_append_right _ _ (by rw [List.length_map]; exact Nat.le_refl _), List.length_map, Nat.sub_self]
  rfl
theorem TL.len (h : TL f H ts xs) : (ts.map V.ref).length = xs.length := by rw [List.length_map, h.1]
theorem LT.same (h : LT f H a xs) (s : Same H H') : LT f H' a xs := let ⟨ts, e, q⟩ := h; ⟨ts, s _ _ e, q.same s⟩
theorem LT.but {o : List V} (h : LT f H a xs) (s : But b H H') (hb : H b = some (.lst o)) (n : a ≠ b) : LT f H' a xs := let ⟨ts, e, q⟩ := h; ⟨ts, s _ _ n e, q.but s hb⟩
theorem TL.box (h : TL f H ts xs) (s : But b H H') {d : Addr} (B : Bx H b d) : TL f H' ts xs := let ⟨_, _, e, _⟩ := B; h.but s e
theorem LT.box (h : LT f H a xs) (s : But b H H') {d : Addr} (B : Bx H b d) (n : a ≠ b) : LT f H' a xs := let ⟨_, _, e, _⟩ := B; h.but s e n
end
/-- a block -/
@[reducible] def bV (b : Int × Int) : List V := [.int b.1, .int b.2]
theorem menu {ns : List Int} {r : Int} (h0 : 0 ≤ r) (h1 : r < (ns.length : Int)) : ∃ v, v ∈ ns ∧ atI (ns.map V.int) r = some (.int v) := by
  refine ⟨ns.getD r.toNat 0, ?_, at_int h0 h1⟩
  have hi : r.toNat < ns.length := by omega
  simp only [List.getD_eq_getElem?_getD]
  rw [List.getElem?_eq_getElem hi]
  exact List.getElem_mem hi
/-! ### isinstance -/
section
variable {K : PySem.W.Frag} {H : Hp} {Q : VK}
theorem r_isi {x : V} {t T : String} {b : Bool} (ty : TyOf K H x (.type t)) (e : kitB t T = some b) (q : Q (.bl b) H) : rIsi K [x, .ty T] H Q := ⟨x, _, _, _, b, rfl, .ty T, .base ty, kit_ty e, q⟩
theorem kit_bb : kitB "bool" "bool" = some true := by decide +kernel
theorem kit_ii : kitB "int" "int" = some true := by decide +kernel
theorem kit_ib : kitB "int" "bool" = some false := by decide +kernel
theorem kit_bi : kitB "bool" "int" = some true := by decide +kernel
theorem kit_nb : kitB "NoneType" "bool" = some false := by decide +kernel
theorem kit_nt : kitB "NoneType" "tuple" = some false := by decide +kernel
theorem kit_ll : kitB "list" "list" = some true := by decide +kernel
theorem kit_tt : kitB "tuple" "tuple" = some true := by decide +kernel
theorem kit_ss : kitB "str" "str" = some true := by decide +kernel
theorem kit_lt : kitB "list" "tuple" = some false := by decide +kernel
theorem kit_tl : kitB "tuple" "list" = some false := by decide +kernel
theorem r_isi_ib {i : Int} (q : Q (.bl false) H) : rIsi K [.int i, .ty "bool"] H Q := r_isi (.int i) kit_ib q
theorem r_isi_ii {i : Int} (q : Q (.bl true) H) : rIsi K [.int i, .ty "int"] H Q := r_isi (.int i) kit_ii q
theorem r_isi_bb {i : Bool} (q : Q (.bl true) H) : rIsi K [.bl i, .ty "bool"] H Q := r_isi (.bl i) kit_bb q
theorem r_isi_nb (q : Q (.bl false) H) : rIsi K [.non, .ty "bool"] H Q := r_isi .non kit_nb q
theorem r_isi_nt (q : Q (.bl false) H) : rIsi K [.non, .ty "tuple"] H Q := r_isi .non kit_nt q
theorem r_isi_ll {a : Addr} {xs : List V} (e : H a = some (.lst xs)) (q : Q (.bl true) H) : rIsi K [.ref a, .ty "list"] H Q := r_isi (.lst e) kit_ll q
theorem r_isi_tt {a : Addr} {xs : List V} (e : H a = some (.tup xs)) (q : Q (.bl true) H) : rIsi K [.ref a, .ty "tuple"] H Q := r_isi (.tup e) kit_tt q
end
theorem ite_notT {A B : Prop} (h : B) : if (!true) = true then A else B := h
theorem ite_notF {A B : Prop} (h : A) : if (!false) = true then A else B := h
/-! ### data at any depth -/
class Enc (α : Type) [DecidableEq α] where
  enc : α → PyData
  dep : Nat
  lay : ∀ x, (enc x).canLay0 = true
  dle : ∀ x, (enc x).depth ≤ dep
  eqv : ∀ x y, PyData.eqv (enc x) (enc y) = decide (x = y)
open Enc (enc)
instance encInt : Enc Int := ⟨.int, 0, fun _ => rfl, fun _ => Nat.le_refl _, fun x y => by rw [PyData.eqv]; exact Bool.beq_eq_decide_eq x y⟩
instance encBool : Enc Bool := ⟨.bool, 0, fun _ => rfl, fun _ => Nat.le_refl _, fun x y => by rw [PyData.eqv]; exact Bool.beq_eq_decide_eq x y⟩
theorem layAll {α : Type} [DecidableEq α] [Enc α] : ∀ xs : List α, PyData.canLayAll0 (xs.map enc) = true
  | [] => rfl
  | x :: xs => by rw [List.map_cons, PyData.canLayAll0, Enc.lay x, layAll xs]; rfl
theorem depAll {α : Type} [DecidableEq α] [Enc α] : ∀ xs : List α, PyData.depthAll (xs.map enc) ≤ Enc.dep α
  | [] => by rw [List.map_nil, PyData.depthAll]; exact Nat.zero_le _
  | x :: xs => by
    have h1 := depAll xs
    have h2 := Enc.dle x
    rw [List.map_cons]
    rw [PyData.depthAll]
    omega
theorem eqvAll {α : Type} [DecidableEq α] [Enc α] : ∀ xs ys : List α, PyData.eqvAll (xs.map enc) (ys.map enc) = decide (xs = ys)
  | .nil, .nil => by rw [List.map_nil, PyData.eqvAll]; exact (decide_eq_true rfl).symm
  | .nil, .cons b m => by simp [PyData.eqvAll, List.map_cons]
  | .cons a l, .nil => by simp [PyData.eqvAll, List.map_cons]
  | x :: xs, y :: ys => by
    rw [List.map_cons, List.map_cons, PyData.eqvAll, Enc.eqv, eqvAll xs ys]
    by_cases h : x = y <;> by_cases h' : xs = ys <;> simp [h, h']
instance encList {α : Type} [DecidableEq α] [Enc α] : Enc (List α) := ⟨fun xs => .list (xs.map enc), Enc.dep α + 1, fun xs => by rw [PyData.canLay0]; exact layAll xs,
  fun xs => by have := depAll xs; rw [PyData.depth]; omega, fun xs ys => by rw [PyData.eqv]; exact eqvAll xs ys⟩
instance encPair {α β : Type} [DecidableEq α] [DecidableEq β] [Enc α] [Enc β] : Enc (α × β) := ⟨fun x => .tuple [enc x.1, enc x.2], max (Enc.dep α) (Enc.dep β) + 1,
  fun x => by rw [PyData.canLay0, PyData.canLayAll0, PyData.canLayAll0, PyData.canLayAll0, Enc.lay, Enc.lay]; rfl,
  fun x => by
    have h1 := Enc.dle x.1
    have h2 := Enc.dle x.2
    rw [PyData.depth, PyData.depthAll, PyData.depthAll, PyData.depthAll]
    omega,
  fun x y => by
    rw [PyData.eqv, PyData.eqvAll, PyData.eqvAll, PyData.eqvAll, Enc.eqv, Enc.eqv]
    obtain ⟨a, b⟩ := x
    obtain ⟨c, d⟩ := y
    by_cases h : a = c <;> by_cases h' : b = d <;> simp [h, h']⟩
theorem shapedE {α : Type} [DecidableEq α] [Enc α] (hd : Enc.dep α ≤ 64) (x : α) : SeqAt.shaped (enc x) = true := by
  have h := Enc.dle x
  show ((enc x).canLay0 && decide ((enc x).depth ≤ 64)) = true
  rw [Bool.and_eq_true]
  exact ⟨Enc.lay x, decide_eq_true (by omega)⟩
theorem Same.sqT {K : PySem.W.Frag} {H H' : Hp} {a : Addr} {xs : List V} (e : Same H H') (h : SqT K H a xs) : SqT K H' a xs := by
  rcases h with (z | ⟨u, z⟩) | z
  · exact .inl (.inl (e _ _ z))
  · exact .inl (.inr ⟨u, e _ _ z⟩)
  · exact .inr z
mutual
theorem Dp.same {K : PySem.W.Frag} {H H' : Hp} (s : Same H H') : ∀ (d : PyData) (v : V), Dp K H v d → Dp K H' v d
  | .none, _, h => by cases h; exact .non
  | .bool b, _, h => by cases h; exact .bl b
  | .int i, _, h => by cases h; exact .int i
  | .str x, _, h => by cases h; exact .str x
  | .list ds, _, h => by
    cases h with
    | lst a b => exact .lst (s.seq a) (DpAll.same s ds _ b)
  | .tuple ds, _, h => by
    cases h with
    | tup a b => exact .tup (Same.sqT s a) (DpAll.same s ds _ b)
  | .dict _, _, h => by cases h
theorem DpAll.same {K : PySem.W.Frag} {H H' : Hp} (s : Same H H') : ∀ (ds : List PyData) (vs : List V), DpAll K H vs ds → DpAll K H' vs ds
  | [], _, h => by cases h; exact .nil
  | d :: ds, _, h => by
    cases h with
    | cons a b => exact .cons (Dp.same s d _ a) (DpAll.same s ds _ b)
end
/-- the value v is the datum x -/
def Is {α : Type} [DecidableEq α] [Enc α] (K : PySem.W.Frag) (H : Hp) (v : V) (x : α) : Prop := Dp K H v (enc x)
section
variable {K : PySem.W.Frag} {H H' : Hp} {Q : VK}
theorem Is.same {α : Type} [DecidableEq α] [Enc α] {v : V} {x : α} (h : Is K H v x) (s : Same H H') : Is K H' v x := Dp.same s _ _ h
theorem is_int {i : Int} : Is K H (.int i) i := .int i
theorem is_bl {i : Bool} : Is K H (.bl i) i := .bl i
theorem dpAll_ints : ∀ ns : List Int, DpAll K H (ns.map V.int) (ns.map enc)
  | [] => .nil
  | n :: ns => .cons (.int n) (dpAll_ints ns)
theorem is_ints {a : Addr} {ns : List Int} (h : SqL K H a (ns.map V.int)) : Is K H (.ref a) ns := .lst h (dpAll_ints ns)
theorem is_pair {α β : Type} [DecidableEq α] [DecidableEq β] [Enc α] [Enc β] {a : Addr} {u v : V} {x : α} {y : β} (h : SqT K H a [u, v]) (h1 : Is K H u x) (h2 : Is K H v y) : Is K H (.ref a) (x, y) := .tup h (.cons h1 (.cons h2 .nil))
theorem TL.dp : ∀ {ts : List Addr} {bs : List (Int × Int)}, TL bV H ts bs → DpAll K H (ts.map V.ref) (bs.map enc)
  | [], [], _ => .nil
  | [], _ :: _, h => by have := h.1; simp at this
  | _ :: _, [], h => by have := h.1; simp at this
  | t :: ts, b :: bs, h => by
    obtain ⟨x, e1, e2⟩ := h.2 0 t rfl
    have e1' : b = x := Option.some.inj e1
    subst e1'
    refine .cons (is_pair (SqT.of e2) is_int is_int) (TL.dp ⟨by have := h.1; simpa using this, fun i t' e => ?_⟩)
    obtain ⟨x, e3, e4⟩ := h.2 (i + 1) t' (by simpa using e)
    exact ⟨x, by simpa using e3, e4⟩
theorem LT.is {a : Addr} {bs : List (Int × Int)} (h : LT bV H a bs) : Is K H (.ref a) bs := let ⟨_, e, t⟩ := h; .lst (SqL.of e) t.dp
theorem r_neE {α : Type} [DecidableEq α] [Enc α] {u v : V} {x y : α} (h1 : Is K H u x) (h2 : Is K H v y) (hd : Enc.dep α ≤ 64) (q : Q (.bl (!decide (x = y))) H) : rNeD K u v H Q :=
  ⟨_, _, h1, h2, shapedE hd x, shapedE hd y, by rw [Enc.eqv]; exact q⟩
theorem r_neSame {u v : V} {d : PyData} (h1 : Dp K H u d) (h2 : Dp K H v d) (hs : SeqAt.shaped d = true) (q : Q (.bl false) H) : rNeD K u v H Q :=
  ⟨_, _, h1, h2, hs, hs, by rw [SeqAt.eqv_refl d (SeqAt.canLay_of_shaped hs)]; exact q⟩
theorem r_eqSame {u v : V} {d : PyData} (h1 : Dp K H u d) (h2 : Dp K H v d) (hs : SeqAt.shaped d = true) (q : Q (.bl true) H) : rEqD K u v H Q :=
  ⟨_, _, h1, h2, hs, hs, by rw [SeqAt.eqv_refl d (SeqAt.canLay_of_shaped hs)]; exact q⟩
theorem first_at {β : Type} {x : β} : ∀ {xs : List β}, x ∈ xs → ∃ j : Nat, xs[j]? = some x ∧ ∀ m : Nat, m < j → xs[m]? ≠ some x
  | y :: xs, h => by
    by_cases e : y = x
    · exact ⟨0, by rw [e]; rfl, fun m hm => by omega⟩
    · obtain h | h := List.mem_cons.mp h
      · exact absurd h.symm e
      · obtain ⟨j, h1, h2⟩ := first_at h
        refine ⟨j + 1, by simpa using h1, fun m hm => ?_⟩
        cases m with
        | zero => intro q; exact e (Option.some.inj q)
        | succ m => have := h2 m (by omega); simpa using this
theorem r_indexE {α : Type} [DecidableEq α] [Enc α] {a : Addr} {y : V} {xs : List α} {x : α} (h1 : Is K H (.ref a) xs) (h2 : Is K H y x) (hd : Enc.dep α + 1 ≤ 64) (hm : x ∈ xs) (q : ∀ j : Nat, xs[j]? = some x → Q (.int j) H) : rIndexD K (.ref a) [y] H Q := by
  obtain ⟨j, e1, e2⟩ := first_at hm
  refine ⟨a, y, enc x, xs.map enc, j, enc x, rfl, rfl, h1, h2, shapedE (α := List α) hd xs, shapedE (by omega) x, by rw [List.getElem?_map, e1]; rfl, by rw [Enc.eqv]; simp, fun m z' hm' hz => ?_, q j e1⟩
  rw [List.getElem?_map] at hz
  obtain ⟨u, hu, rfl⟩ := Option.map_eq_some_iff.mp hz
  rw [Enc.eqv]
  exact decide_eq_false fun e => e2 m hm' (by rw [hu, e])
theorem r_eqE {α : Type} [DecidableEq α] [Enc α] {u v : V} {x y : α} (h1 : Is K H u x) (h2 : Is K H v y) (hd : Enc.dep α ≤ 64) (q : Q (.bl (decide (x = y))) H) : rEqD K u v H Q :=
  ⟨_, _, h1, h2, shapedE hd x, shapedE hd y, by rw [Enc.eqv]; exact q⟩
end
/-! ### valid layouts -/
def VL (size : Int) : Int → List (Int × Int) → Prop
  | e, [] => e ≤ size
  | e, (s, l) :: r => e ≤ s ∧ 1 ≤ l ∧ VL size (s + l) r
def endOf : Int → List (Int × Int) → Int
  | e, [] => e
  | _, (s, l) :: r => endOf (s + l) r
theorem VL.snoc {size s l : Int} : ∀ {bs : List (Int × Int)} {e : Int}, VL size e bs → endOf e bs ≤ s → 1 ≤ l → s + l ≤ size → VL size e (bs ++ [(s, l)])
  | [], e, h, h1, h2, h3 => ⟨h1, h2, h3⟩
  | (a, c) :: r, e, h, h1, h2, h3 => ⟨h.1, h.2.1, VL.snoc h.2.2 h1 h2 h3⟩
theorem endOf_snoc {s l : Int} : ∀ (bs : List (Int × Int)) (e : Int), endOf e (bs ++ [(s, l)]) = s + l
  | [], _ => rfl
  | (a, c) :: r, _ => endOf_snoc r (a + c)
theorem VL.end_le {size : Int} : ∀ {bs : List (Int × Int)} {e : Int}, VL size e bs → endOf e bs ≤ size
  | [], _, h => h
  | (s, l) :: r, _, h => VL.end_le (bs := r) (e := s + l) h.2.2
theorem VL.le_size {size : Int} : ∀ {bs : List (Int × Int)} {e : Int}, VL size e bs → e ≤ size
  | [], _, h => h
  | (s, l) :: r, e, h => by
    have := VL.le_size h.2.2
    have := h.1
    have := h.2.1
    omega
theorem VL.mem {size : Int} : ∀ {bs : List (Int × Int)} {e : Int}, VL size e bs → ∀ x ∈ bs, e ≤ x.1 ∧ 1 ≤ x.2 ∧ x.1 + x.2 ≤ size
  | (s, l) :: r, e, h, x, hx => by
    obtain rfl | hx := List.mem_cons.mp hx
    · exact ⟨h.1, h.2.1, h.2.2.le_size⟩
    · have := VL.mem h.2.2 x hx
      have h1 := h.1
      have h2 := h.2.1
      omega
theorem VL.pw {size : Int} : ∀ {bs : List (Int × Int)} {e : Int}, VL size e bs → bs.Pairwise (fun a b => a.1 + a.2 ≤ b.1)
  | [], _, _ => .nil
  | (s, l) :: r, e, h => List.pairwise_cons.mpr ⟨fun x hx => (VL.mem h.2.2 x hx).1, VL.pw h.2.2⟩
/-- the cell's value: one more than the index of its block, or 0 -/
def cellOf (at_ : Int) : Int → List (Int × Int) → Int
  | _, [] => 0
  | k, (s, l) :: r => if s ≤ at_ ∧ at_ < s + l then k + 1 else cellOf at_ (k + 1) r
def Covers (bs : List (Int × Int)) (at_ : Int) : Prop := ∃ x ∈ bs, x.1 ≤ at_ ∧ at_ < x.1 + x.2
theorem cellOf_zero {at_ : Int} : ∀ {bs : List (Int × Int)} {k : Int}, 0 ≤ k → (cellOf at_ k bs = 0 ↔ ¬ Covers bs at_)
  | [], k, _ => by simp [cellOf, Covers]
  | (s, l) :: r, k, hk => by
    unfold cellOf
    by_cases c : s ≤ at_ ∧ at_ < s + l
    · rw [if_pos c]
      constructor
      · intro h; omega
      · intro h; exact absurd ⟨(s, l), List.mem_cons_self, c⟩ h
    · rw [if_neg c, cellOf_zero (bs := r) (by omega)]
      constructor
      · rintro h ⟨x, hx, hc⟩
        obtain rfl | hx := List.mem_cons.mp hx
        · exact c hc
        · exact h ⟨x, hx, hc⟩
      · rintro h ⟨x, hx, hc⟩
        exact h ⟨x, List.mem_cons_of_mem _ hx, hc⟩
theorem cellOf_take {at_ : Int} {size : Int} : ∀ {bs : List (Int × Int)} {e k : Int} {j : Nat} {x : Int × Int}, VL size e bs → bs[j]? = some x → (x.1 ≤ at_ ∧ at_ < x.1 + x.2) → cellOf at_ k bs = k + j + 1
  | (s, l) :: r, e, k, 0, x, h, ex, hc => by
    have e' : (s, l) = x := Option.some.inj ex
    subst e'
    unfold cellOf
    rw [if_pos hc]
    simp
  | (s, l) :: r, e, k, j + 1, x, h, ex, hc => by
    have ex' : r[j]? = some x := by simpa using ex
    have hm := VL.mem h.2.2 x (List.mem_of_getElem? ex')
    unfold cellOf
    rw [if_neg (by omega), cellOf_take h.2.2 ex' hc]
    omega
theorem cellOf_snoc {at_ : Int} {size : Int} : ∀ {bs : List (Int × Int)} {e c : Int} {k : Nat} {x : Int × Int}, VL size e bs → bs[k]? = some x → cellOf at_ c (bs.take (k + 1)) = if x.1 ≤ at_ ∧ at_ < x.1 + x.2 then c + k + 1 else cellOf at_ c (bs.take k)
  | (s, l) :: r, e, c, 0, x, h, ex => by
    have e' : (s, l) = x := Option.some.inj ex
    subst e'
    show cellOf at_ c [(s, l)] = _
    unfold cellOf
    simp only [List.take_zero, cellOf]
    simp
  | (s, l) :: r, e, c, k + 1, x, h, ex => by
    have ex' : r[k]? = some x := by simpa using ex
    have hm := VL.mem h.2.2 x (List.mem_of_getElem? ex')
    have ih := cellOf_snoc (at_ := at_) (c := c + 1) h.2.2 ex'
    rw [List.take_succ_cons, List.take_succ_cons, cellOf, cellOf, ih]
    by_cases q : s ≤ at_ ∧ at_ < s + l
    · rw [if_pos q, if_pos q, if_neg (by omega)]
    · rw [if_neg q, if_neg q]
      by_cases q2 : x.1 ≤ at_ ∧ at_ < x.1 + x.2
      · rw [if_pos q2, if_pos q2]; omega
      · rw [if_neg q2, if_neg q2]
def CellsOf (size : Int) (bs : List (Int × Int)) (cs : List Int) : Prop := (cs.length : Int) = size ∧ ∀ i, i < cs.length → cs[i]? = some (cellOf i 0 bs)
/-! ### maximal rows of zeros -/
def runsTo (c : Nat → Int) : Nat → List (Int × Int)
  | 0 => []
  | i + 1 => if c i = 0 then (if 0 < i ∧ c (i - 1) = 0 then (runsTo c i).dropLast ++ [(((runsTo c i).getLastD (0, 0)).1, ((runsTo c i).getLastD (0, 0)).2 + 1)] else runsTo c i ++ [((i : Int), 1)]) else runsTo c i
theorem runsTo_ne {c : Nat → Int} : ∀ {i : Nat}, 0 < i → c (i - 1) = 0 → runsTo c i ≠ []
  | i + 1, _, h => by
    rw [Nat.add_sub_cancel] at h
    rw [runsTo, if_pos h]
    split <;> simp
theorem runsTo_len {c : Nat → Int} : ∀ i : Nat, (runsTo c i).length ≤ i
  | 0 => Nat.le_refl _
  | i + 1 => by
    have ih := runsTo_len (c := c) i
    rw [runsTo]
    split
    · split
      · rename_i h
        have := runsTo_ne h.1 h.2
        have : 0 < (runsTo c i).length := List.length_pos_iff.mpr this
        simp
        omega
      · simp
        omega
    · omega
def gapsF (size : Int) : Int → List (Int × Int) → List (Int × Int)
  | e, [] => if size > e then [(e, size - e)] else []
  | e, (s, l) :: r => if s > e then (e, s - e) :: gapsF size (s + l) r else gapsF size (s + l) r
theorem runs_free {c : Nat → Int} {e : Nat} {G : List (Int × Int)} (h0 : runsTo c e = G) (hp : e = 0 ∨ c (e - 1) ≠ 0) : ∀ m : Nat, (∀ i, e ≤ i → i < e + m → c i = 0) → runsTo c (e + m) = if 0 < m then G ++ [((e : Int), (m : Int))] else G
  | 0, _ => by simpa using h0
  | m + 1, h => by
    have ih := runs_free h0 hp m (fun i h1 h2 => h i h1 (by omega))
    have hc : c (e + m) = 0 := h _ (by omega) (by omega)
    show runsTo c ((e + m) + 1) = _
    rw [runsTo, if_pos hc, ih]
    by_cases hm : 0 < m
    · have h1 : c (e + m - 1) = 0 := h _ (by omega) (by omega)
      rw [if_pos ⟨by omega, h1⟩, if_pos hm, if_pos (Nat.succ_pos _)]
      simp
    · have hm0 : m = 0 := by omega
      subst hm0
      rw [if_neg hm, if_pos (Nat.succ_pos _), if_neg (by
        rintro ⟨h1, h2⟩
        rcases hp with h3 | h3
        · omega
        · exact h3 h2)]
      simp
theorem runs_used {c : Nat → Int} {s : Nat} : ∀ m : Nat, (∀ i, s ≤ i → i < s + m → c i ≠ 0) → runsTo c (s + m) = runsTo c s
  | 0, _ => rfl
  | m + 1, h => by
    show runsTo c ((s + m) + 1) = _
    rw [runsTo, if_neg (h _ (by omega) (by omega))]
    exact runs_used m (fun i h1 h2 => h i h1 (by omega))
theorem runs_gaps {c : Nat → Int} {n : Nat} : ∀ {bs : List (Int × Int)} {e : Nat} {G : List (Int × Int)}, VL n e bs → (∀ i : Nat, e ≤ i → i < n → (c i = 0 ↔ ¬ Covers bs i)) → runsTo c e = G → (e = 0 ∨ c (e - 1) ≠ 0) → runsTo c n = G ++ gapsF n e bs
  | [], e, G, h, hc, h0, hp => by
    have h' : e ≤ n := by have : (e : Int) ≤ n := h; omega
    obtain ⟨m, rfl⟩ : ∃ m, n = e + m := ⟨n - e, by omega⟩
    rw [runs_free h0 hp m (fun i h1 h2 => (hc i h1 h2).mpr (by simp [Covers])), gapsF]
    by_cases hm : 0 < m
    · rw [if_pos hm, if_pos (by omega)]
      congr 3
      omega
    · rw [if_neg hm, if_neg (by omega)]
      simp
  | (s, l) :: r, e, G, h, hc, h0, hp => by
    obtain ⟨h1, h2, h3⟩ := h
    have h4 := h3.le_size
    obtain ⟨s', rfl⟩ : ∃ s' : Nat, s = s' := ⟨s.toNat, by omega⟩
    obtain ⟨l', rfl⟩ : ∃ l' : Nat, l = l' := ⟨l.toNat, by omega⟩
    obtain ⟨m, rfl⟩ : ∃ m, s' = e + m := ⟨s' - e, by omega⟩
    have nc : ∀ i : Nat, i < e + m → ¬ Covers ((((e + m : Nat) : Int), (l' : Int)) :: r) i := by
      rintro i hi ⟨x, hx, hcx⟩
      obtain rfl | hx := List.mem_cons.mp hx
      · simp only at hcx; omega
      · have := VL.mem h3 x hx
        omega
    have a1 := runs_free h0 hp m (fun i q1 q2 => (hc i q1 (by omega)).mpr (nc i q2))
    have a2 := runs_used (c := c) (s := e + m) l' (fun i q1 q2 q3 => (hc i (by omega) (by omega)).mp q3 ⟨_, List.mem_cons_self, by simp only; omega⟩)
    rw [a1] at a2
    have a3 := runs_gaps (c := c) (n := n) (bs := r) (e := e + m + l') (by rw [Int.natCast_add]; exact h3) (fun i q1 q2 => by
      rw [hc i (by omega) q2]
      constructor
      · rintro q3 ⟨x, hx, hcx⟩
        exact q3 ⟨x, List.mem_cons_of_mem _ hx, hcx⟩
      · rintro q3 ⟨x, hx, hcx⟩
        obtain rfl | hx := List.mem_cons.mp hx
        · simp only at hcx; omega
        · exact q3 ⟨x, hx, hcx⟩) a2 (.inr (fun q => (hc (e + m + l' - 1) (by omega) (by omega)).mp q ⟨_, List.mem_cons_self, by simp only; omega⟩))
    rw [a3, gapsF, Int.natCast_add (e + m) l']
    by_cases hm : 0 < m
    · rw [if_pos hm, if_pos (by omega)]
      simp
      omega
    · rw [if_neg hm, if_neg (by omega)]
/-! ### max(xs, default=d) -/
def rMaxD (K : PySem.W.Frag) : List V → List V → Hp → VK → Prop := fun vs zs H Q => ∃ (a : Addr) (ns : List Int) (d : Int), vs = [V.ref a] ∧ zs = [V.int d] ∧ SqL K H a (ns.map V.int) ∧
  Q (.int (match ns with | [] => d | n :: r => r.foldl max n)) H
theorem alike_ints (ns : List Int) : PySem.W.AlikeAll (ns.map PyData.int) := by
  refine ⟨fun x hx y hy => ?_, fun x hx => ?_⟩
  · obtain ⟨i, _, rfl⟩ := List.mem_map.mp hx
    obtain ⟨j, _, rfl⟩ := List.mem_map.mp hy
    rfl
  · obtain ⟨i, _, rfl⟩ := List.mem_map.mp hx
    intro h
    cases h
theorem cr_maxD {X : Cx} {k : Nat} (hc : X.calm = true) (hr : Room k X.A) : CallRK X (.builtin "max") [Str.ofString "default"] (rMaxD X.K) := by
  rintro pins s σ H vs zs us ws Q I r rz ⟨a, ns, d, rfl, rfl, hs, q⟩
  obtain rfl := Vals.ref1 r
  obtain ⟨w1, rfl, td, rfl⟩ := vals1 rz
  rcases I.list hs with ⟨its, rv, hl, -⟩
  obtain ⟨as, hra⟩ := Dp.readsAll I (ns.map PyData.int) _ its (dpAll_ints ns) rv
  have hu := hr.units
  refine PySem.W.max_list_default (I.ok.hd hc) hl.isList hra (alike_ints ns) (by rw [PySem.W.ke_depthAll]; omega) (fun e h' tk hk => ?_) (fun y ys i v h' tk bs e hv hrd hk => ?_)
  · cases ns with
    | nil => exact ⟨.int d, H, I.kept hk, ⟨_, rfl⟩, q⟩
    | cons n r => cases e
  · cases ns with
    | nil => cases e
    | cons n r =>
      rw [List.map_cons] at e
      injection e with e1 e2
      subst e1 e2
      rw [PySem.W.maxD_ints] at hrd
      cases hrd with
      | int i t => exact ⟨.int _, H, I.kept hk, ⟨_, rfl⟩, q⟩
/-! ### slices -/
theorem cut_take {xs : List V} {i : Nat} (h : i ≤ xs.length) : cutV xs none (some (i : Int)) = xs.take i := by
  unfold cutV
  rw [HT.sIx_none, HT.sIx_nat, List.drop_zero, Nat.sub_zero, Nat.min_eq_left h]
theorem cut_drop {xs : List V} {i : Nat} (h : i ≤ xs.length) : cutV xs (some (i : Int)) none = xs.drop i := by
  unfold cutV
  rw [HT.sIx_none, HT.sIx_nat, Nat.min_eq_left h, List.take_of_length_le]
  rw [List.length_drop]
  exact Nat.le_refl _
theorem TL.take {α : Type} {f : α → List V} {H : Hp} {ts : List Addr} {xs : List α} (h : TL f H ts xs) (n : Nat) : TL f H (ts.take n) (xs.take n) := by
  refine ⟨by rw [List.length_take, List.length_take, h.1], fun i t e => ?_⟩
  rw [List.getElem?_take] at e
  split at e
  · rename_i hi
    obtain ⟨x, e1, e2⟩ := h.2 i t e
    exact ⟨x, by rw [List.getElem?_take, if_pos hi]; exact e1, e2⟩
  · cases e
theorem TL.drop {α : Type} {f : α → List V} {H : Hp} {ts : List Addr} {xs : List α} (h : TL f H ts xs) (n : Nat) : TL f H (ts.drop n) (xs.drop n) := by
  refine ⟨by rw [List.length_drop, List.length_drop, h.1], fun i t e => ?_⟩
  rw [List.getElem?_drop] at e ⊢
  exact h.2 _ t e
theorem TL.append {α : Type} {f : α → List V} {H : Hp} {ts us : List Addr} {xs ys : List α} (h : TL f H ts xs) (h' : TL f H us ys) : TL f H (ts ++ us) (xs ++ ys) := by
  refine ⟨by rw [List.length_append, List.length_append, h.1, h'.1], fun i t e => ?_⟩
  by_cases hi : i < ts.length
  · rw [List.getElem?_append_left hi] at e
    obtain ⟨x, e1, e2⟩ := h.2 i t e
    exact ⟨x, by rw [List.getElem?_append_left (by rw [← h.1]; exact hi)]; exact e1, e2⟩
  · rw [List.getElem?_append_right (by omega)] at e
    obtain ⟨x, e1, e2⟩ := h'.2 _ t e
    exact ⟨x, by rw [List.getElem?_append_right (by rw [← h.1]; omega), ← h.1]; exact e1, e2⟩
/-! ### lists of ints that rise -/
theorem inc_ext : ∀ {l m : List Int}, l.Pairwise (· < ·) → m.Pairwise (· < ·) → (∀ x, x ∈ l ↔ x ∈ m) → l = m
  | [], [], _, _, _ => rfl
  | [], y :: m, _, _, h => absurd ((h y).mpr List.mem_cons_self) (by simp)
  | x :: l, [], _, _, h => absurd ((h x).mp List.mem_cons_self) (by simp)
  | .cons x l, .cons y m, hl, hm, h => by
    obtain ⟨l1, l2⟩ := List.pairwise_cons.mp hl
    obtain ⟨m1, m2⟩ := List.pairwise_cons.mp hm
    have e : x = y := by
      have a1 := (h x).mp List.mem_cons_self
      have a2 := (h y).mpr List.mem_cons_self
      obtain a1 | a1 := List.mem_cons.mp a1
      · exact a1
      · obtain a2 | a2 := List.mem_cons.mp a2
        · exact a2.symm
        · have := m1 x a1
          have := l1 y a2
          omega
    subst e
    rw [inc_ext l2 m2 fun z => ?_]
    constructor
    · intro hz
      rcases List.mem_cons.mp ((h z).mp (List.mem_cons_of_mem _ hz)) with e | q
      · have := l1 z hz
        omega
      · exact q
    · intro hz
      rcases List.mem_cons.mp ((h z).mpr (List.mem_cons_of_mem _ hz)) with e | q
      · have := m1 z hz
        omega
      · exact q
/-- the same in the order of pairs -/
def LexLe (a b : Int × Int) : Prop := a.1 < b.1 ∨ (a.1 = b.1 ∧ a.2 ≤ b.2)
theorem lex_uniq {l m : List (Int × Int)} (hl : l.Pairwise LexLe) (hm : m.Pairwise LexLe) (h : l.Perm m) : l = m := by
  refine List.Perm.eq_of_pairwise (le := LexLe) (fun a b _ _ h1 h2 => ?_) hl hm h
  unfold LexLe at h1 h2
  obtain ⟨a1, a2⟩ := a
  obtain ⟨b1, b2⟩ := b
  simp only at h1 h2
  rw [Prod.mk.injEq]
  omega
theorem VL.lex {size e : Int} {bs : List (Int × Int)} (h : VL size e bs) : bs.Pairwise LexLe := by
  have hm := h.mem
  refine (List.Pairwise.and_mem.mp h.pw).imp fun {a b} q => ?_
  have := hm a q.1
  unfold LexLe
  omega
end Pf

set_option maxHeartbeats 3000000
namespace Pf
open L2 PySem PySem.Spec PyProof.Rows
/-! own exceptions whose __init__ calls super().__init__ over ValueError's -/
/-- what is written of the class at C, its method's cell of the class at cc -/
structure OwnX (K : PySem.W.Frag) (C cc : Addr) : Prop where
  T : OexC K C
  cell : ∃ cl cld csl, K.lookup cc = some ⟨cl, cld, .cell (some (.ref C)), csl⟩
  sub : PySem.W.mroIn K C (.ref C) = some true
  sup : PySem.W.ks_superIn K C C "__init__" = some (some (.builtin "ValueError.__init__"))
  ve : PySem.W.subIn K (.ref C) (.type "ValueError") = some true
  no : PySem.W.nsIn K PySem.cStatics "thirdparty.any" = some none
section
variable {X : Cx} {pins : List (Addr × Obj)} {σ : L2.St} {H : Hp} {s : Shared} {a C : Addr}
/-- the bound __init__ of ValueError, called -/
theorem wrapper_ok {A : Around} {u : Addr} {us : List Value} {Q : Value → Shared → Prop} {E : Value → Shared → Prop} (T : OexC X.K C) (I : Inv X pins σ H s) (hu : s.heap.get? u = some (PySem.W.kxs_mw "ValueError.__init__" a)) (e : H a = some (exo a C none)) (hz : us.length ≤ sizeLine)
    (h : ∀ s', Inv X pins σ H s' → Q .none s') : wpAny (model X.prog X.w) A (call (.ref u) us) Q E s := by
  rcases T.cls with ⟨_, _, _, _, bm, _, _, _, _, _, _, _, _, _, _, hC, -⟩
  obtain ⟨t0, ho⟩ := exo_at I.hok e
  have hC' := I.kIn _ _ hC
  rcases s with ⟨hp, gs, dr, tk, os⟩
  refine wpAny_call ?_
  refine codeAny_of_tree ?_
  show wpAny _ A.in1 (callAny (.ref u) ⟨us, []⟩) _ _ _
  simp only [callAny]
  refine wpAny_bind ?_
  refine wpAny_load hu ?_
  simp only [PySem.W.kxs_mw, show (Value.type "method-wrapper" == Value.type "method" || Value.type "method-wrapper" == Value.type "builtin_function_or_method" || Value.type "method-wrapper" == Value.type "method-wrapper") = true by decide, if_true]
  refine PySem.W.KFB.if_so (hc := by decide) ?_
  refine wpAny_bind (PySem.W.check_bound_init F.excBase_ValueError.toExcCallFacts hC' ho rfl ?_)
  refine wpAny_bind (wpAny_pure (wpAny_pure (And.intro (plainId_quiet F.excBase_ValueError.init.plain _) (codeAny_builtin F.excBase_ValueError.initEntry ?_))))
  refine PySem.W.exc_init_tree (cls := .ref C) (t0 := t0) (dv := none) (c2 := .none) (c3 := .none) (b4 := .bool false) ho hz fun h' k hx _ => ?_
  have J := I.write (t' := tk) (x := a) (e := a) (o := exo a C none) (by rw [e]; exact True.intro) (.inl rfl) k ⟨_, hx⟩ (exo_ok hx)
  rw [show upd H a (exo a C none) = H from funext fun b => if hb : b = a then (by rw [hb, upd_same, e]) else upd_ne hb] at J
  exact h _ J
end
section
variable {CX : CXT} {P : Program} {w : World} {K : PySem.W.Frag} {mg : Str → Option Value} {base : Heap} {k : Nat} {f C cc cda : Addr} {name qual self : Str} {params : Arguments} {body rest : List Stmt} {scope : Scope} {dV kV doc pm ct oc ccl : Value} {an od cdd : Option Addr}
  {osl ccs : Array (Option Value)} {vs0 : Array Value} {N ps ps' : List Str} {sp : Sp} {p0 p1 ap pos epos : Pos} {e : Expr} {ar : Arg} {file : Str} {tf : Tok} {pl : Env → Sem Bool}
/-- the words of the method as a function with the captured cell -/
abbrev nfX (name qual : Str) (params : Arguments) (body : List Stmt) (scope : Scope) (cc cda : Addr) : NdefX.NF := ⟨name, qual, params, body, scope, [("__class__", cc)], cda⟩
theorem fn_sup (O : OwnX K C cc) (lk : K.lookup f = some ⟨oc, od, .func (PySem.W.ksFn name qual params body scope dV kV doc pm an (.ref cda) ct cc), osl⟩) (hcd : PySem.W.codeIn K (.ref cda) qual = true)
    (hrec : K.lookup cda = some ⟨ccl, cdd, .fields vs0, ccs⟩) (hvs : vs0[2]? = some (.str file tf)) (hfile : ((P.main.file : Str) == file) = true) (htop : (P.main.scope.names.lookup ("super" : Str)).isSome = false) (hmg : mg "super" = none)
    (hbd : body = .Expr (.Call (.Attribute (.Call (.Name "super" p0) [] [] p1) "__init__" ap) [e] [] pos) epos :: rest)
    (S : NdefX.NScope N ps ["__class__"] scope) (hps : ps = self :: ps') (hks : scope.names.lookup ("super" : Str) = some NameKind.globalImplicit) (hp : (params.posonlyargs ++ params.args).head? = some ar) (har : ar.arg = self)
    (hhe : ∀ env : Env, eval (.Call (.Attribute (.Call (.Name "super" p0) [] [] p1) "__init__" ap) [e] [] pos) env = (do
      let ov ← attributeBase (.Call (.Name "super" p0) [] [] p1) "__init__" env (eval (.Call (.Name "super" p0) [] [] p1) env)
      standAt ap.atName
      let (f, first) ← holding [ov] (getMethod ov "__init__" (pl env))
      callWith pos f first (backTo pos (starEach [e] env)) []))
    (hst : ∀ env : Env, starEach [e] env = [(false, eval e env)])
    (hsw : ∀ (env : Env) (l : Nat), swapsWith (.Call (.Attribute (.Call (.Name "super" p0) [] [] p1) "__init__" ap) [e] [] pos) none l env = pure false)
    (hin : ∀ (s : Shared) , interactive (PySem.W.ksEnv qual scope s.heap.objs.size f (.ref cda) cc) = false)
    (len : ∀ us h Q E, sp us h Q E → us.length = ps.length)
    (hbody : ∀ (A : Around) (outer : List Env) (s : Shared) (H : Hp) (vs : List V) (Q : VK) (E : XK), Room k (A.deeper (NdefX.envF (nfX name qual params body scope cc cda) f s.heap.objs.size)) → sp vs H Q E →
      ∃ (a : Addr) (ws : List V) (ta : TA) (t : TS), vs = .ref a :: ws ∧ H a = some (exo a C none) ∧ PA (NdefX.ncx CX P w K mg base N (nfX name qual params body scope cc cda) f A outer s H E) [e] ta ∧ PSs (NdefX.ncx CX P w K mg base N (nfX name qual params body scope cc cda) f A outer s H E) rest t ∧
        ta (NdefX.startF N vs [none]) H fun us H1 => H1 a = some (exo a C none) ∧ us.length ≤ 1000 ∧ t { nx := fun _ H' => Q .non H', rt := Q } (NdefX.startF N vs [none]) H1) :
    FnOk P w K mg base CX (k + 1) f (PySem.W.ksFn name qual params body scope dV kV doc pm an (.ref cda) ct cc) ps sp := by
  refine FnOk.mk len ?_
  intro A outer s H args us vs Q E hr e0 hb r hsp
  have hl := len _ _ _ _ hsp
  have stay : ∀ b o, base.get? b = some o → s.heap.get? b = some o := fun b o z => And.left (e0.bs b o z)
  have KX := e0.mod.kin.keeps stay
  have lim := e0.mod.nolimit.keeps stay
  obtain ⟨cl, cld, csl, hcell⟩ := O.cell
  have hH : H cc = none := (e0.bs _ _ (e0.mod.kin _ _ hcell)).2
  have C1 : NdefX.CellsAt (nfX name qual params body scope cc cda).cl ["__class__"] [none] s.heap H := by
    have key : ∀ y c, [(("__class__" : Str), cc)].lookup y = some c → y = "__class__" ∧ c = cc := fun y c q => by
      have m := PySem.mem_of_lookup q
      rcases List.mem_cons.mp m with z | z
      · cases z
        exact ⟨rfl, rfl⟩
      · cases z
    refine ⟨rfl, fun y c q => ?_, fun x y c h1 h2 => ?_, fun i y hi => ?_⟩
    · obtain ⟨_, rfl⟩ := key y c q
      exact ⟨hH, _, ⟨_, KX _ _ hcell, rfl⟩⟩
    · exact (key _ _ h1).1.trans (key _ _ h2).1.symm
    · match i, hi with
      | 0, hi =>
        cases hi
        refine ⟨cc, rfl, fun v hv => ?_⟩
        cases hv
  refine ks_codeAny_call_defAt (fd := PySem.W.ksFn name qual params body scope dV kV doc pm an (.ref cda) ct cc) (body := body) (binds := ps.zip us) hr.depth (KX _ _ lk) rfl lim (PySem.W.codeRec_of KX hcd) rfl hb S.nocell
    (fun y hy => S.par y.1 (List.of_mem_zip (show (y.1, y.2) ∈ ps.zip us from hy)).1) (fun h₁ hns kp => ?_) S.co S.gen S.kind
  obtain ⟨a, ws, ta, t, rfl, ha, hta, ht, hq⟩ := hbody A outer s H vs Q E (hr.deeper _) hsp
  have I : Inv (NdefX.ncx CX P w K mg base N (nfX name qual params body scope cc cda) f A outer s H E) [] (NdefX.startF N (.ref a :: ws) [none]) H { s with heap := h₁, toks := s.toks + (ps.zip us).length } :=
    NdefX.inv_startN S hr.hd e0 hl r C1 hns kp
  have fin : ∀ {σ' : L2.St} {H' : Hp} {s' : Shared} {v : V} {u : Value}, Inv (NdefX.ncx CX P w K mg base N (nfX name qual params body scope cc cda) f A outer s H E) [] σ' H' s' → L2.RelV v u → Q v H' → CE outer P w H s Q u s' :=
    fun {σ' H' s' v u} J rv q => ⟨v, H', J.os, J.bare, J.base, J.hok, rv, q⟩
  subst hbd
  subst hps
  cases r with
  | @cons _ u0 _ ur ra rr =>
  obtain rfl := (show u0 = Value.ref a from ra)
  have hself : scope.names.lookup self = some NameKind.local := S.par self List.mem_cons_self
  have henv : (NdefX.ncx CX P w K mg base N (nfX name qual params (.Expr (.Call (.Attribute (.Call (.Name "super" p0) [] [] p1) "__init__" ap) [e] [] pos) epos :: rest) scope cc cda) f A outer s H E).env = PySem.W.ksEnv qual scope s.heap.objs.size f (.ref cda) cc := rfl
  refine ks_wpAt_execs_cons (ks_wpAt_Expr_any (ks_wpAt_MethodCall (pl := pl (PySem.W.ksEnv qual scope s.heap.objs.size f (.ref cda) cc)) ?_ (hhe _)) (hin s) (hsw _ _))
  obtain ⟨cdD, hcls⟩ : ∃ cdD, PySem.W.clsIn K C = some cdD := by
    obtain ⟨nm, q, N, bs, bm, sn, sub, ab, col, dd, k0, k1, k2, k3, k5, hC, hbm⟩ := O.T.cls
    exact ⟨_, by unfold PySem.W.clsIn; rw [hC] <;> rfl⟩
  obtain ⟨oD, hD0, hD2⟩ : ∃ oD, K.lookup C = some oD ∧ oD.data = .cls cdD := by
    unfold PySem.W.clsIn at hcls
    split at hcls
    · rename_i c d cd' sl ho
      cases hcls
      exact ⟨_, ho, rfl⟩
    · cases hcls
  have KI := I.kIn
  have hD1 := KI _ _ hD0
  refine PySem.ks_wpAt_super_base (env := PySem.W.ksEnv qual scope s.heap.objs.size f (.ref cda) cc) (f := f) (cc := cda) hks (S.frk _ List.mem_cons_self) rfl rfl (KI _ _ lk) rfl hp rfl (KI _ _ hrec) rfl hvs hfile htop ?_
  rcases I.mod.blt with ⟨mb, h1, h2⟩
  refine PySem.W.ks_loadName_global S.kind hks (Calls.loadGlobal_builtin (env := PySem.W.ksEnv qual scope s.heap.objs.size f (.ref cda) cc) (I.mod.glob.keeps I.bk) hmg (h1.keeps I.bk) ((h2 "super" (by decide)).trans (by decide +kernel : bootBuiltins "super" = some (.type "super"))) ⟨rfl, ?_⟩)
  refine wpAny_loadName_free S.kind (S.frk _ List.mem_cons_self) rfl ⟨_, KI _ _ hcell, rfl⟩ ?_
  refine wpAny_loadName_local (v := .ref a) S.kind (by rw [har]; exact hself) hns ?_ ?_
  · have ndP : (self :: ps').Nodup := by
      have q := S.nd.sublist (List.take_sublist ((self :: ps').length + [("__class__" : Str)].length) N)
      rw [S.pre] at q
      exact And.left (List.nodup_append.mp q)
    rw [har]
    exact NdefX.zip_look (i := 0) ndP rfl rfl
  refine ks_wpAny_isType_cls hD1 hD2 (And.intro rfl ?_)
  obtain ⟨t0, hoa⟩ := exo_at I.hok ha
  refine ks_wpAny_call_super hD1 hD2 hoa rfl (fun c => by intro z; cases z) (PySem.W.looks_mroIn KI O.sub) (fun h' hso kk => ?_)
  have I2 := I.kept (t' := s.toks + ((self :: ps').zip (Value.ref a :: ur)).length) kk
  have KI2 := I2.kIn
  have hoa2 := kk _ _ hoa
  have hsup := O.sup
  unfold PySem.W.ks_superIn at hsup
  rw [hcls] at hsup
  have hty : PySem.W.InstAt h' a _ C none := ⟨hoa2, rfl, rfl, trivial⟩
  have hne : a ≠ C := PySem.W.ks_ne KI2 hty hcls
  refine PySem.W.kxs_getMethod PySem.W.kxs_ValueError hso (PySem.W.looks_opaque KI2 O.no) (l₀ := cdD.mro) (fun A Q E s k q => wpAny_bind ((PySem.W.looks_clsIn KI2 hcls) A _ E s k (wpAny_pure q))) rfl KI2 hsup (hty.type.andThen (PySem.W.looks_subIn KI2 O.ve)) hne (by decide) ?_
  have hmw : (h'.push (PySem.W.kxs_mw "ValueError.__init__" a)).get? h'.objs.size = some (PySem.W.kxs_mw "ValueError.__init__" a) := Heap.get?_push_size _ rfl
  have nH : H h'.objs.size = none := I2.hok.fresh (Nat.le_refl _)
  have I3 := I2.kept (h' := h'.push (PySem.W.kxs_mw "ValueError.__init__" a)) (t' := s.toks + ((self :: ps').zip (Value.ref a :: ur)).length + 1) (fun b u z => Heap.get?_push_of_some _ z)
  have I4 : Inv (NdefX.ncx CX P w K mg base N (nfX name qual params (.Expr (.Call (.Attribute (.Call (.Name "super" p0) [] [] p1) "__init__" ap) [e] [] pos) epos :: rest) scope cc cda) f A outer s H E) [(h'.objs.size, PySem.W.kxs_mw "ValueError.__init__" a)] (NdefX.startF N (.ref a :: ws) [none]) H
      { heap := h'.push (PySem.W.kxs_mw "ValueError.__init__" a), gens := s.gens, drawn := s.drawn, toks := s.toks + ((self :: ps').zip (Value.ref a :: ur)).length + 1, os := s.os } := I3.pins_of fun p hp => by
    rcases List.mem_cons.mp hp with z | z
    · subst z
      refine ⟨hmw, nH, ?_, fun z => ?_, fun v z => by cases z⟩
      · exact Nat.ne_of_gt (Nat.lt_of_lt_of_le I2.lt (Nat.le_refl _))
      · exact I2.nofs (Nat.le_refl _) z
    · cases z
  show wpAny _ _ (callWith pos (.ref h'.objs.size) [] (backTo pos (starEach [e] _)) []) _ _ _
  refine PySem.W.kxs_callWith (i := "ValueError.__init__") (x := a) (by rw [hst]; rfl) ?_
  rw [hst]
  refine PySem.Calls.evalArgs_plain ?_
  show wpAny _ _ (spliced (backTo pos [(false, eval e (PySem.W.ksEnv qual scope s.heap.objs.size f (.ref cda) cc))])) _ _ _
  rw [← hst (PySem.W.ksEnv qual scope s.heap.objs.size f (.ref cda) cc)]
  refine thn (hta.run pos _ _ _ H _ I4 hq) fun us2 s2 ⟨vs2, H2, I5, r2, ha2, hl2, hq2⟩ => ?_
  have hp2 := (I5.pin _ (List.mem_append_right _ List.mem_cons_self)).1
  refine ⟨hp2, ?_⟩
  show wpAny _ _ (call (.ref h'.objs.size) us2) _ _ _
  refine wrapper_ok O.T I5 hp2 ha2 (by rw [← Paired.length r2, sizeLine_eq]; omega) fun s3 I6 => ?_
  have I7 := I6.pins_of (pins' := []) (fun p hp => absurd (show p ∈ ([] : List (Addr × Obj)) from hp) (by simp))
  refine wpAt_of_wpAny (wpAny_mono (ht.run [] _ _ H2 _ I7 hq2) (fun fl s' hs => ?_) fun e s' hs => hs)
  cases fl with
  | ret u =>
    rcases hs with ⟨v, slots, h2, J, rv, q⟩
    exact fin J rv q
  | next =>
    obtain ⟨σ', H', J, q⟩ := hs
    exact fin (u := Value.none) (v := V.non) J rfl q
  | brk =>
    obtain ⟨_, _, _, q⟩ := hs
    exact False.elim q
  | cont =>
    obtain ⟨_, _, _, q⟩ := hs
    exact False.elim q
end

/-! ### enumerate over a text -/
/-- the turns of enumerate over the text x: each gives a new pair -/
def ItES (x : Str) : It where
  go := fun n _ => n < x.cps.size
  yld := fun n h v h' => ∃ p c, v = .ref p ∧ h p = none ∧ h' = upd h p (.tup [.int (n : Nat), .str ⟨#[c]⟩]) ∧ x.cps[n]? = some c
  stop := fun n _ => x.cps.size ≤ n
/-- the signs, drawn one by one -/
theorem drawsStr {prog : Program} {w : World} {A : Around} (free : A.handled = none) (q : Addr) (x : Str) (t : Tok) :
    Draws prog w A q [q] x.cps.size (fun n v => ∃ c u, x.cps[n]? = some c ∧ v = .str ⟨#[c]⟩ u) fun n h => h.IsStrIter q (strIterType x) x t n := by
  by_cases ascii : x.cps.all (· < 128) = true
  · rw [show strIterType x = "str_ascii_iterator" from if_pos ascii]
    exact Draws.strAscii free q x t
  · rw [show strIterType x = "str_iterator" from if_neg ascii]
    exact Draws.strWide free q x t
/-- behind the last sign -/
theorem drawsEnd {prog : Program} {w : World} {A : Around} (free : A.handled = none) (q : Addr) (x : Str) (t : Tok) (n : Nat) (none_ : x.cps[n]? = none) :
    Draws prog w A q [q] n (fun _ _ => True) fun m h => m = n ∧ h.IsStrIter q (strIterType x) x t m where
  live := by
    rintro m h ⟨-, o, at_, -⟩
    exact ⟨o, at_⟩
  frame := by
    rintro m h h' ⟨rfl, o, at_, rest⟩ same
    exact ⟨rfl, o, same q List.mem_cons_self o at_, rest⟩
  item := fun m s Q E lt st _ => absurd st.1 (Nat.ne_of_lt lt)
  done := by
    rintro s Q E ⟨-, st⟩ out
    by_cases ascii : x.cps.all (· < 128) = true
    · rw [show strIterType x = "str_ascii_iterator" from if_pos ascii] at st
      exact wpAny_nextOf_ascii_end free st none_ out
    · rw [show strIterType x = "str_iterator" from if_neg ascii] at st
      exact wpAny_nextOf_wide_end free st none_ out
/-- the enumerate object at e over the walk at q, ahead of its n-th turn -/
structure EnS (x : Str) (t : Tok) (e q : Addr) (n : Nat) (h : Heap) : Prop where
  en : ∃ last, IsEnum h e q ((n : Nat) : Int) last
  walk : h.IsStrIter q (strIterType x) x t n
  two : e ≠ q
section
variable {x : Str} {t : Tok} {e q : Addr} {n : Nat} {h h' : Heap}
theorem EnS.at_ (p : EnS x t e q n h) : ∀ b ∈ [e, q], ∃ o, h.get? b = some o ∧ ∀ v, o.data ≠ .cell v := by
  intro b mem
  rcases List.mem_cons.mp mem with rfl | mem2
  · obtain ⟨last, z⟩ := p.en
    exact ⟨_, z, fun v => by intro y; cases y⟩
  · obtain rfl := List.mem_singleton.mp mem2
    obtain ⟨o, z, -, dat⟩ := p.walk
    exact ⟨o, z, fun v y => by rw [dat] at y; cases y⟩
theorem EnS.stay (p : EnS x t e q n h) (same : ∀ b ∈ [e, q], ∀ o, h.get? b = some o → h'.get? b = some o) : EnS x t e q n h' := by
  obtain ⟨last, z⟩ := p.en
  obtain ⟨o, y, rest⟩ := p.walk
  exact ⟨⟨last, same e List.mem_cons_self _ z⟩, ⟨o, same q (List.mem_cons_of_mem _ List.mem_cons_self) _ y, rest⟩, p.two⟩
theorem EnS.lt (p : EnS x t e q n h) : ∀ b ∈ [e, q], b < h.objs.size := fun b mem => let ⟨_, z, _⟩ := p.at_ b mem; Heap.lt_size z
end
theorem turn_enumS {P : Program} {w : World} {K : PySem.W.Frag} {elts : List Expr} {kk : Nat} {tpos : Pos} (x : Str) (t : Tok) (e q : Addr) : Turn P w K (.Tuple elts kk tpos) (ItES x) [e, q] e (EnS x t e q) where
  mem := List.mem_cons_self
  obj := fun _ _ p => p.at_
  keep := fun _ _ _ p same => p.stay same
  self := fun A n s Q E p out => by
    obtain ⟨last, z⟩ := p.en
    exact wpAny_pyIter_enum z out
  item := by
    intro X eP ew eK calm n pins s σ H E inv own p lt
    subst eP ew eK
    obtain ⟨last, z⟩ := p.en
    have fresh : H s.heap.objs.size = none := inv.hok.fresh (Nat.le_refl _)
    have apart : ∀ b ∈ [e, q], b ≠ s.heap.objs.size := fun b mem => Nat.ne_of_lt (p.lt b mem)
    have memE : e ∈ [e, q] := List.mem_cons_self
    have memQ : q ∈ [e, q] := List.mem_cons_of_mem _ List.mem_cons_self
    refine wpAny_pyNext_enum_itemD (drawsStr (A := X.A.in1) (inv.ok.hd calm) q x t) z p.walk lt p.two (fun y => p.two (List.mem_singleton.mp y)) ?_
    rintro _ g tk ⟨c, u, sign, rfl⟩ given walked pair - rest
    refine ⟨_, rfl, wpAny_letOwnedTupleGo_enum (s := { s with heap := g, toks := tk + 1 }) given fun g2 again but => ?_⟩
    have pair2 := (but.2 _ (apart e memE).symm).trans pair
    have laid : ObjOk X.prog X.w (upd H s.heap.objs.size (.tup [.int (n : Nat), .str ⟨#[c]⟩])) g2 s.heap.objs.size (.tup [.int (n : Nat), .str ⟨#[c]⟩]) :=
      ⟨by show 2 ≤ sizeLine; rw [sizeLine_eq]; omega, _, Paired.cons ⟨tk, rfl⟩ (Paired.cons ⟨u, rfl⟩ Paired.nil), ⟨_, pair2, rfl, _, rfl⟩⟩
    have inv2 := Inv.turnedNew (t' := tk + 1) (h' := g2) inv (fun b o out at_ => by
      have be : b ≠ e := fun y => out (y ▸ memE)
      have bq : b ≠ q := fun y => out (y ▸ memQ)
      exact (but.2 b be).trans (rest b o be bq at_)) own (Nat.le_refl _) laid
    refine ⟨.ref s.heap.objs.size, _, inv2, rfl, ⟨_, c, rfl, fresh, rfl, sign⟩, ⟨⟨_, by simpa using again⟩, ?_, p.two⟩, fun b mem => ?_⟩
    · obtain ⟨o, at_, more⟩ := walked
      exact ⟨o, (but.2 q p.two.symm).trans at_, more⟩
    · exact (upd_ne (apart b mem)).trans (own b mem).1
  done := by
    intro X eP ew eK calm n pins s σ H E inv own p ge
    subst eP ew eK
    obtain ⟨last, z⟩ := p.en
    obtain ⟨a0, a1, a2, a3, a4, a5⟩ := own q (List.mem_cons_of_mem _ List.mem_cons_self)
    exact wpAny_pyNext_enum_endD (drawsEnd (A := X.A.in1) (inv.ok.hd calm) q x t n (Array.getElem?_eq_none ge)) z ⟨rfl, p.walk⟩ fun g but => And.intro rfl (inv.turned (t' := s.toks) (fun b o ne at_ => but b o ne at_) a0 a1 a3 a4 a5)
def iEnumS (ta : TA) : TI := fun σ H R => ta σ H fun vs h => ∃ x, vs = [.str x] ∧ R (ItES x) h
/-- for i, c in enumerate(text) -/
theorem pi_enumS {X : Cx} {e : Expr} {ta : TA} {p pos tpos : Pos} {elts : List Expr} {kk : Nat} (hg : Gl X "enumerate") (hm : X.mg "enumerate" = none) (arg : PA X [e] ta) (one : starEach [e] X.env = [(false, eval e X.env)] := by rfl) :
    PI X (.Tuple elts kk tpos) (.Call (.Name "enumerate" p) [e] [] pos) (iEnumS ta) where
  run := by
    intro pins s σ H R inv wish
    refine Call_ (ld_blt inv hg hm boot_enumerate (PyProof.Rows.callWith_type1 (thn (arg.run pos pins s σ H _ inv wish) ?_) one rfl))
    rintro us s1 ⟨_, h1, inv1, vals, x, rfl, ends⟩
    rcases vals with _ | ⟨⟨t, rfl⟩, nil_⟩
    cases nil_
    refine call_enumerate_str fun g made walk _ same => wpAny_pyIter_enum made ?_
    have big : ∀ b ∈ [s1.heap.objs.size + 1, s1.heap.objs.size], s1.heap.objs.size ≤ b := fun b mem => by
      rcases List.mem_cons.mp mem with rfl | mem2
      · omega
      · rw [List.mem_singleton.mp mem2]; exact Nat.le_refl _
    exact ⟨_, [s1.heap.objs.size + 1, s1.heap.objs.size], _, _, h1, rfl, inv1.kept (t' := s1.toks) same, turn_enumS x t _ _, ⟨⟨_, made⟩, walk, Nat.succ_ne_self _⟩, fun b mem => inv1.fpOk (big b mem) (inv1.hok.fresh (big b mem)), ends⟩
/-! ### texts as lists of signs -/
/-- the text of signs -/
abbrev S (signs : List Nat) : Str := ⟨signs.toArray⟩
theorem S_len (l : List Nat) : (S l).length = l.length := by
  show l.toArray.size = _
  simp
theorem S_append (l m : List Nat) : S l ++ S m = S (l ++ m) := by
  show (⟨l.toArray ++ m.toArray⟩ : Str) = ⟨(l ++ m).toArray⟩
  simp
theorem S_inj {l m : List Nat} : S l = S m ↔ l = m := ⟨fun h => by
  have := congrArg (fun z : Str => z.cps.toList) h
  simpa using this, fun h => by rw [h]⟩
theorem S_mul (c : Nat) (n : Int) : Txt.mul (S [c]) n = S (List.replicate n.toNat c) := by
  unfold Txt.mul
  by_cases h : n < 1
  · rw [if_pos h]
    have : n.toNat = 0 := by omega
    rw [this]; rfl
  · rw [if_neg h]
    by_cases h1 : n = 1
    · subst h1; rfl
    · have e : (n == 1 || (S [c]).length == 0) = false := by simp [h1, S_len]
      rw [if_neg (by rw [e]; decide)]
      have key : ∀ (k : Nat) (a : Array Nat), (List.replicate k (S [c]).cps).foldl (· ++ ·) a = a ++ (List.replicate k c).toArray := by
        intro k
        induction k with
        | zero => intro a; simp
        | succ k ih =>
          intro a
          rw [List.replicate_succ, List.foldl_cons, ih, List.replicate_succ]
          apply Array.ext'
          simp
      rw [key]
      simp
/-- one sign, many times -/
def rMulS : V → V → Hp → VK → Prop := fun x y H Q => ∃ (c : Nat) (n : Int), x = .str (S [c]) ∧ y = .int n ∧ -(2 ^ 31) ≤ n ∧ n ≤ 2 ^ 20 ∧ Q (.str (S (List.replicate n.toNat c))) H
theorem op_mulS {X : Cx} : OpR X (binaryOp .Mult) rMulS := by
  intro pins s σ H x y v u Q I rx ry wish
  obtain ⟨c, n, rfl, rfl, h0, h1, q⟩ := wish
  obtain ⟨t, rfl⟩ := rx
  obtain ⟨t', rfl⟩ := ry
  refine SB.mul ⟨by simp; omega, fun z _ => ?_, fun _ _ => ?_⟩ fun t2 k => ⟨.str (S (List.replicate n.toNat c)), H, I.tok _, ⟨_, by rw [S_mul]⟩, q⟩
  · rw [S_len]
    have hn : 1 ≤ n := by omega
    have : (1 : Int) ≤ (2 ^ 63 - 1) / n := by
      rw [Int.le_ediv_iff_mul_le (by omega)]
      omega
    exact Int.not_lt.mpr this
  · rw [S_len]
    show decide ([c].length * n.toNat > sizeLine) = false
    rw [sizeLine_eq]
    simp only [List.length_singleton, Nat.one_mul, decide_eq_false_iff_not]
    omega
/-! ### the caught exception -/
theorem is_exact {a C : Addr} {oe : Obj} (hc : oe.cls = .ref C) : Answers (fun s => s.heap.get? a = some oe) (.ref a) (.ref C) true := by
  intro dep tk prog w A R s ⟨p, hq⟩
  rcases s with ⟨h0, gs, dr, tt, os⟩
  unfold PySem.Builtin.«isinstance.nested»
  have L : PySem.W.Looks (model prog w) h0 (typeOf (.ref a)) (.ref C) := hc ▸ (PySem.W.Looks.ld p).andThen .now
  refine wpAny_bind (L.at ?_)
  rw [if_pos (by simp)]
  exact wpAny_bind (wpAny_rule (wpAny_pure (hq tt)))
/-- isinstance(e, C), e the caught exception, whose class is C -/
def rIsX (C a : Addr) (cls : Value) : List V → Hp → VK → Prop := fun xs H Q => xs = [.ref a, .ref C] ∧ cls = .ref C ∧ Q (.bl true) H
theorem call_isX {X : Cx} {a C : Addr} {oe : Obj} {cls : Value} {d : Option Addr} {pn : List (Addr × Obj)} (hz : Zc cls d oe) : CallR (X.suite a ((a, oe) :: pn)) (.builtin "isinstance") (rIsX C a cls) := by
  rintro pins s σ H xs us Q I r ⟨rfl, rfl, q⟩
  cases r with
  | cons rx rr =>
    cases rr with
    | cons rt rr =>
      cases rr
      cases rx
      cases rt
      have hget := And.left (I.pin (a, oe) (List.mem_append_left _ List.mem_cons_self))
      exact call_isinstance (S := fun _ R s => s.heap.get? a = some oe ∧ ∀ tk, R (.ok (.ret (.bool true))) { s with toks := tk })
        (fun prog w A R s hs => isinstance_outer (is_exact hz.1 0 _ prog w A R s hs) (by intro z; cases z)) ⟨hget, fun tk => ⟨.bl true, H, I.kept (t' := tk) fun _ _ z => z, rfl, q⟩⟩
/-! ### an own exception that may be made -/
structure XCal (P : Program) (w : World) (K : PySem.W.Frag) (mg : Str → Option Value) (base : Heap) (x : Str) (C : Addr) (k : Nat) (f : Addr) (fd : FuncData) (ps : List Str) (sp : Sp) : Prop where
  ok : FnOk P w K mg base CX0 k f fd ps sp
  T : OexC K C
  iC : PySem.W.findIn K (.ref C) "__init__" = some (some (.ref f))
  tI : PySem.W.typeIn K (.ref f) = some (.type "function")
  b : Binds K fd ps []
  m : mg x = some (.ref C)
/-- X(y), the field f holding y -/
def sp_exc1 (C : Addr) (f : Str) : Sp := fun vs H Q _ => ∃ (a : Addr) (i : Nat), vs = [.ref a, .int i] ∧ i ≤ 1000 ∧ H a = some (exo a C none) ∧ ∀ dx, H dx = none → dx ≠ a → Q .non (upd (upd H dx (exd dx [(f, .int i)])) a (exo a C (some dx)))
theorem exc1_out {C : Addr} {f : Str} {H : Hp} {W : XK} {i : Nat} (hi : i ≤ 1000) (h : ∀ (d : Addr) (H' : Hp), Same H H' → H d = none → H' d = some (.xd [(f, .int i)]) → W (.ref C) (some d) H') :
    ([V.int i].length ≤ 1000 ∧ ∀ a, H a = none → sp_exc1 C f (.ref a :: ([V.int i] ++ [])) (upd H a (exo a C none))
      (fun v H2 => v = .non ∧ ∃ (d : Addr) (fs : List (Str × V)), H2 a = some (exo a C (some d)) ∧ H2 d = some (exd d fs) ∧ H d = none ∧ W (.ref C) (some d) (upd (del H2 a) d (.xd fs))) (fun _ _ _ => False)) := by
  refine ⟨by simp, fun a na => ⟨a, i, rfl, hi, upd_same, fun dx nd nda => ⟨rfl, dx, [(f, .int i)], upd_same, by rw [upd_ne nda, upd_same], by rwa [upd_ne nda] at nd, ?_⟩⟩⟩
  rw [upd_ne nda] at nd
  refine h dx _ (fun b o e => ?_) nd upd_same
  have hb : b ≠ dx := ne_of_none e nd
  have ha : b ≠ a := ne_of_none e na
  rw [upd_ne hb, del_ne ha, upd_ne ha, upd_ne hb, upd_ne ha]
  exact e
/-! ### walks -/
section
variable {D : Ends} {σ : L2.St} {H : Hp} {g : TG} {tb : TS}
theorem for_enumL {K : PySem.W.Frag} {a : Addr} {xs : List V} {D : Ends} {σ : L2.St} {H : Hp} {g : TG} {tb : TS} (P : Nat → L2.St → Hp → Prop) (start : P 0 σ H) (hl : ∀ i s h, i ≤ xs.length → P i s h → SqL K h a xs)
    (hs : ∀ i x s h p, xs[i]? = some x → P i s h → h p = none → g (.ref p) s (upd h p (.tup [.int (i : Nat), x])) (tb { D with nx := P (i + 1), ct := P (i + 1), bk := D.nx })) (hd : ∀ s h, P xs.length s h → D.nx s h) :
    WkS (Ite K a) D.nx (fun y s h B => g y s h (tb { D with nx := B, ct := B, bk := D.nx })) σ H :=
  walkS P start (fun s h p => And.intro ⟨xs, hl _ s h (Nat.le_refl _) p, Nat.le_refl _⟩ (hd s h p)) fun i s h lt p => And.intro ⟨xs, xs[i], hl i s h (Nat.le_of_lt lt) p, List.getElem?_eq_getElem lt⟩ (by
    rintro _ _ ⟨b, x, rfl, free, rfl, at_⟩
    exact hs i x s h b (at_ xs (hl i s h (Nat.le_of_lt lt) p)) p free)
theorem for_enumS {x : Str} {D : Ends} {σ : L2.St} {H : Hp} {g : TG} {tb : TS} (P : Nat → L2.St → Hp → Prop) (start : P 0 σ H)
    (hs : ∀ i c s h p, x.cps[i]? = some c → P i s h → h p = none → g (.ref p) s (upd h p (.tup [.int (i : Nat), .str ⟨#[c]⟩])) (tb { D with nx := P (i + 1), ct := P (i + 1), bk := D.nx })) (hd : ∀ s h, P x.cps.size s h → D.nx s h) :
    WkS (ItES x) D.nx (fun y s h B => g y s h (tb { D with nx := B, ct := B, bk := D.nx })) σ H :=
  walkS P start (fun s h p => And.intro (Nat.le_refl _) (hd s h p)) fun i s h lt p => And.intro lt (by
    rintro _ _ ⟨b, c, rfl, free, rfl, at_⟩
    exact hs i c s h b at_ p free)
theorem r_iES {tA : TA} {R : It → Hp → Prop} (h : tA σ H fun vs H1 => ∃ x, vs = [.str x] ∧ R (ItES x) H1) : iEnumS tA σ H R := h
theorem r_iES1 {x : Str} {A : Str → Prop} (q : A x) : ∃ y, [V.str x] = [.str y] ∧ A y := ⟨x, rfl, q⟩
theorem r_iEL {K : PySem.W.Frag} {tA : TA} {R : It → Hp → Prop} (h : tA σ H fun vs H1 => ∃ a xs, vs = [.ref a] ∧ SqL K H1 a xs ∧ R (Ite K a) H1) : iEnum K tA σ H R := h
theorem r_iEL1 {K : PySem.W.Frag} {a : Addr} {xs : List V} {A : Addr → Prop} (h : SqL K H a xs) (q : A a) : ∃ b ys, [V.ref a] = [.ref b] ∧ SqL K H b ys ∧ A b := ⟨a, xs, rfl, h, q⟩
end
/-! ### readings of texts -/
section
variable {H : Hp} {Q : VK}
theorem r_addS {a b : Str} {A : Str → Str → Prop} (h : A a b) : ∃ i j, V.str a = .str i ∧ V.str b = .str j ∧ A i j := ⟨a, b, rfl, rfl, h⟩
theorem r_ixS {z : Str} {i : Int} {c : Nat} (ha : atI z.cps.toList i = some c) (hz : z.length ≤ sizeLine) (q : Q (.str ⟨#[c]⟩) H) : rIxS (.str z) (.int i) H Q := ⟨z, i, c, rfl, rfl, hz, ha, q⟩
theorem r_lenS {a : Str} {A : Str → Prop} (h : A a) : ∃ z, [V.str a] = [.str z] ∧ A z := ⟨a, rfl, h⟩
theorem r_eqS {a b : Str} (q : Q (.bl (decide (a = b))) H) : rEq (.str a) (.str b) H Q := ⟨rfl, by rw [show decide (V.str a = V.str b) = decide (a = b) by simp]; exact q⟩
theorem r_neS {a b : Str} (q : Q (.bl (!decide (a = b))) H) : rNe (.str a) (.str b) H Q := ⟨rfl, by rw [show decide (V.str a = V.str b) = decide (a = b) by simp]; exact q⟩
theorem r_slS {z : Str} {lo hi : Option Int} (hz : z.length ≤ sizeLine) (q : Q (.str (cutS z lo hi)) H) : rSlS (.str z) lo hi H Q := ⟨z, rfl, hz, q⟩
theorem r_mulS {c : Nat} {n : Int} (h0 : -(2 ^ 31) ≤ n) (h1 : n ≤ 2 ^ 20) (q : Q (.str (S (List.replicate n.toNat c))) H) : rMulS (.str (S [c])) (.int n) H Q := ⟨c, n, rfl, rfl, h0, h1, q⟩
end
theorem at_nat {α : Type} {xs : List α} {i : Nat} {x : α} (h : xs[i]? = some x) : atI xs (i : Int) = some x := by
  have hl : i < xs.length := by
    by_cases q : i < xs.length
    · exact q
    · rw [List.getElem?_eq_none (by omega)] at h; cases h
  unfold atI ixN
  rw [if_pos (show (0 : Int) ≤ i by omega), if_pos (by omega)]
  simpa using h
theorem cutS_take {t : List Nat} {i : Nat} (h : i ≤ t.length) : cutS (S t) none (some (i : Int)) = S (t.take i) := by
  unfold cutS
  rw [HT.sIx_nat, HT.sIx_none, S_len, Nat.min_eq_left h]
  simp
theorem cutS_drop {t : List Nat} {i : Nat} : cutS (S t) (some (i : Int)) none = S (t.drop i) := by
  unfold cutS
  rw [HT.sIx_nat, HT.sIx_none, S_len]
  by_cases h : i ≤ t.length
  · rw [Nat.min_eq_left h]
    rw [List.take_of_length_le (i := t.length - i) (by simp)]
  · rw [Nat.min_eq_right (by omega), List.drop_of_length_le (i := i) (by omega)]
    simp
theorem pe_gstr {X : Cx} {x y : Str} {pos : Pos} (hg : Gl X x) (hm : ∃ t, X.mg x = some (.str y t)) (hd : (x == ("__debug__" : Str)) = false := by decide) : PE X (.Name x pos) (tC (.str y)) :=
  let ⟨t, h⟩ := hm
  pe_glob hg h ⟨t, rfl⟩ hd
/-- a def that may raise -/
structure CalX (P : Program) (w : World) (K : PySem.W.Frag) (mg : Str → Option Value) (base : Heap) (x : Str) (k : Nat) (f : Addr) (fd : FuncData) (ps : List Str) (sp : Sp) : Prop where
  ok : FnOk P w K mg base (L2.CX P w) k f fd ps sp
  mg : mg x = some (.ref f)
  (kp : PySem.W.keepIn K (.ref f) = true)
  b : Binds K fd ps []
/-- the class at C, caught by the name of the class at B; its field f -/
structure ExF (K : PySem.W.Frag) (mg : Str → Option Value) (C B : Addr) (b f : Str) : Prop where
  m : mg b = some (.ref B)
  by_ : PySem.W.exmOne K (.ref C) (.ref B) = some true
  xf : XfC K C
  no : PySem.W.findIn K (.ref C) f = some none
section
variable {σ : L2.St} {H : Hp} {Q : Str → Hp → Prop} {ts : List TE} {n : Nat}
theorem str_len_app (a b : Str) : (a ++ b).length = a.length + b.length := by
  simp only [Str.length, HAppend.hAppend, Append.append]
  exact Array.size_append
theorem js_start (h : ∀ acc : Str, acc.length ≤ 0 → tJs ts acc σ H Q) : tJs ts Str.empty σ H Q := h Str.empty (Nat.le_refl _)
theorem js_nil (h : ∀ out, Q out H) : ∀ acc : Str, acc.length ≤ n → tJs [] acc σ H Q := fun acc _ => h acc
theorem js_str {y : Str} (hy : y.length ≤ 1000) (hn : n ≤ 10000) (h : ∀ acc : Str, acc.length ≤ n + 1000 → tJs ts acc σ H Q) : ∀ acc : Str, acc.length ≤ n → tJs (tC (.str y) :: ts) acc σ H Q := fun acc ha =>
  ⟨y, rfl, by rw [str_len_app, sizeLine_eq]; omega, h _ (by rw [str_len_app]; omega)⟩
theorem js_fmt {i k : Nat} (hv : σ[k]? = some (some (.int (i : Int)))) (hi : i ≤ 1000) (hn : n ≤ 10000) (h : ∀ acc : Str, acc.length ≤ n + 1010 → tJs ts acc σ H Q) : ∀ acc : Str, acc.length ≤ n → tJs (tFmt (tVar k) :: ts) acc σ H Q := fun acc ha => by
  have hl : ((Str.ofString (toString (i : Int))).length : Int) ≤ 1002 := by
    have := PyProof.Rows.len_str_of_int (i : Int)
    rw [Int.natAbs_natCast] at this
    omega
  refine ⟨.int i, hv, .inr ⟨i, rfl, ?_, ⟨_, rfl, ?_, h _ ?_⟩⟩⟩
  · rw [Int.natAbs_natCast]
    exact Nat.lt_of_le_of_lt (Nat.log2_le_self i) (by omega)
  · rw [str_len_app, sizeLine_eq]; omega
  · rw [str_len_app]; omega
end
theorem r_mk1 {C : Addr} {f : Str} {σ : L2.St} {H : Hp} {W : XK} {i k : Nat} (hv : σ[k]? = some (some (.int (i : Int)))) (hi : i ≤ 1000) (h : ∀ (d : Addr) (H' : Hp), Same H H' → H d = none → H' d = some (.xd [(f, .int (i : Int))]) → W (.ref C) (some d) H') :
    tMkO C (sp_exc1 C f) [] (tCons (tVar k) tNil) σ H W := ⟨.int i, hv, exc1_out hi h⟩
end Pf

set_option maxHeartbeats 3000000
namespace Pf
open L2 PySem PySem.Spec PyProof.Rows LamX
/-! min and max by the j-th entry of pairs: key=lambda x: x[j] -/
/-- the lambda's words: its one parameter, its body -/
structure ByItem (x : Str) (j : Nat) (params : Arguments) (body : Expr) (scope : Scope) : Prop where
  kind : scope.kind = .function
  co : scope.isCoroutine = false
  gen : scope.isGenerator = false
  none_ : ∀ y ∈ scope.names, y.2 ≠ .cell ∧ y.2 ≠ .free
  loc : scope.names.lookup x = some .local
  bind : ∀ (nm q : Str) (pm cdv ctv u : Value), bindArgs (PySem.W.kla_fn nm q params body scope [] pm cdv ctv) ⟨[u], []⟩ = pure [(x, u)]
  body : ∃ (p1 p2 p3 : Pos) (kd : Nat), body = .Subscript (.Name x p1) (.Constant (.int j) kd p2) p3
  dbg : (x == ("__debug__" : Str)) = false
section
variable {prog : Program} {w : World} {A : Around} {E : Value → Shared → Prop} {s : Shared} {x nm q : Str} {j : Nat} {params : Arguments} {body : Expr} {scope : Scope} {f c' t : Addr} {pm ctv : Value} {its : Array Value} {v : Value} {Q : Value → Shared → Prop}
theorem key_call (B : ByItem x j params body scope) (room : A.depth < recursionLimit) (at_ : s.heap.get? f = some (PySem.W.kla_obj nm q params body scope [] pm c' ctv)) (code : s.heap.CodeRec (.ref c') q) (lim : s.heap.NoLimit)
    (tup : IsTup s.heap t its) (item : its[j]? = some v) (small : j < 1000) (h : ∀ h' tk, (∀ b o, s.heap.get? b = some o → h'.get? b = some o) → s.toks ≤ tk → Q v { s with heap := h', toks := tk }) :
    wpAny (model prog w) A (call (.ref f) [.ref t]) Q E s := by
  obtain ⟨p1, p2, p3, kd, rfl⟩ := B.body
  refine wpAny_call ?_
  refine PySem.W.kla_callFunE room at_ rfl B.co B.gen rfl code ?_
  rw [B.bind]
  refine wpAny_pure ?_
  refine wpAny_newFunctionEnv (fun y hy => (B.none_ y hy).1) (fun y hy => by rw [List.mem_singleton.mp hy]; exact B.loc) (fun h1 ns but => ⟨lim.fresh _ but, ?_⟩) B.kind
  have same : ∀ b o, s.heap.get? b = some o → h1.get? b = some o := fun b o z => but.extBut b o (Nat.ne_of_lt (Heap.lt_size z)) (Heap.get?_push_of_some _ z)
  refine PySem.W.kla_codeExpr ?_
  refine wpAny_Subscript_Constant_late ?_
  refine wpAny_Name (wpAny_loadName_local (v := .ref t) B.kind B.loc ns ?_ ?_) B.dbg
  · simp [List.lookup]
  refine wpAny_Constant_int ?_
  refine ⟨"tuple", _, slot_tuple_getitem.lookup, ?_, ?_⟩
  · exact (tup.keeps same).typeIs
  · have lt : j < its.size := by
      by_cases z : j < its.size
      · exact z
      · rw [Array.getElem?_eq_none (by omega)] at item; cases item
    refine getItem_tuple (tup.keeps same) (by omega) (by omega) (j := j) ?_ item ?_
    · simp [seqIndex?]; omega
    · exact h _ _ same (by dsimp only [List.length]; omega)
end
section
variable {X : Cx} {pins : List (Addr × Obj)} {σ : L2.St} {H : Hp} {s : Shared} {x nm q : Str} {j k : Nat} {params : Arguments} {body : Expr} {scope : Scope} {f c' l : Addr} {pm ctv : Value} {ts : List Addr} {key : Nat → Int} {Q : Value → Shared → Prop} {E : Value → Shared → Prop}
/-- a walk over the list at l, made -/
abbrev walkObj (l : Addr) : Obj := { cls := .type "list_iterator", data := .fields #[.ref l, .int 0 0] }
/-- what stays while min or max runs: all but the walk's and its own list -/
def KeyStay (s₂ : Shared) (a b : Addr) (s' : Shared) : Prop := (∀ d o, d ≠ a → d ≠ b → s₂.heap.get? d = some o → s'.heap.get? d = some o) ∧ s'.gens = s₂.gens ∧ s'.drawn = s₂.drawn ∧ s'.os = s₂.os
theorem min_key (calm : X.calm = true) (room : Room (k + 1) X.A) (I : Inv X pins σ H s) (B : ByItem x j params body scope) (at_ : s.heap.get? f = some (PySem.W.kla_obj nm q params body scope [] pm c' ctv)) (code : s.heap.CodeRec (.ref c') q)
    (list : SqL X.K H l (ts.map V.ref)) (ne : ts ≠ []) (small : j < 1000) (entries : ∀ i t, ts[i]? = some t → ∃ xs, SqT X.K H t xs ∧ xs[j]? = some (V.int (key i)))
    (h : ∀ t s', ts[argBest (fun a b => decide (key a < key b)) (ts.length - 1)]? = some t → Inv X pins σ H s' → Q (.ref t) s') : wpAny (model X.prog X.w) X.A (call (.builtin "min") [.ref l] [(Str.ofString "key", .ref f)]) Q E s := by
  rcases I.list list with ⟨its, vals, plain, -⟩
  have refs : its = ts.map Value.ref := by
    clear plain list entries ne h
    induction ts generalizing its with
    | nil => cases vals; rfl
    | cons a r ih =>
      rcases vals with _ | ⟨e, more⟩
      rw [List.map_cons, ← ih _ more]
      rw [show _ = Value.ref a from e]
  subst refs
  have len0 : 0 < ts.length := List.length_pos_iff.mpr ne
  have lt_l : l < s.heap.objs.size := by obtain ⟨o, z, _⟩ := plain.isList; exact Heap.lt_size z
  have up : ∀ b o, s.heap.get? b = some o → (s.heap.push (walkObj l)).get? b = some o := fun b o z => Heap.get?_push_of_some _ z
  have older : ∀ {g : Heap}, (∀ d o, d ≠ s.heap.objs.size → d ≠ (s.heap.push (walkObj l)).objs.size → (s.heap.push (walkObj l)).get? d = some o → g.get? d = some o) → ∀ b o, s.heap.get? b = some o → g.get? b = some o := fun stay b o z =>
    stay b o (Nat.ne_of_lt (Heap.lt_size z)) (Nat.ne_of_lt (by rw [Heap.size_push]; exact Nat.lt_succ_of_lt (Heap.lt_size z))) (up b o z)
  have pick : ∀ {i : Nat} {v : Value}, (ts.map Value.ref).toArray[i]? = some v → ∃ t, ts[i]? = some t ∧ v = .ref t := fun {i v} z => by
    rw [List.getElem?_toArray, List.getElem?_map] at z
    obtain ⟨t, e, rfl⟩ := Option.map_eq_some_iff.mp z
    exact ⟨t, e, rfl⟩
  refine call_min_walkK ?_
  refine wpAny_pyIter_list plain.isList ?_
  refine ⟨s.heap.objs.size, [s.heap.objs.size, l], [s.heap.objs.size], fun a b => b = a, (ts.map Value.ref).toArray.size, _, _, KeyStay { s with heap := s.heap.push (walkObj l) } s.heap.objs.size (s.heap.push (walkObj l)).objs.size, fun i v _ => ∃ tk, v = .int (key i) tk, fun a b => decide (key a < key b), rfl,
    (Walks.list (prog := X.prog) (w := X.w) (A := X.A.in1) (I.ok.hd calm) s.heap.objs.size l (Nat.ne_of_lt lt_l) (ts.map Value.ref).toArray).toS, ⟨⟨_, Heap.get?_push_size _ rfl, rfl, rfl⟩, plain.isList.at fun o z => up _ _ z⟩, ?_, by simpa using len0, ?_, ⟨fun _ _ _ _ z => z, rfl, rfl, rfl⟩, ?_⟩
  · intro b mem
    rw [Heap.size_push]
    rcases List.mem_cons.mp mem with rfl | mem2
    · exact Nat.lt_succ_self _
    · rw [List.mem_singleton.mp mem2]; exact Nat.lt_succ_of_lt lt_l
  · refine ⟨?_, ?_, ?_, ?_⟩
    · rintro s1 s2 ⟨k1, k2, k3, k4⟩ m
      refine ⟨fun d o n1 n2 z => m.heap d o (fun mem => ?_) (k1 d o n1 n2 z), m.gens.trans k2, m.drawn.trans k3, m.os.trans k4⟩
      rcases List.mem_cons.mp mem with z | mem2
      · exact n2 z
      · exact n1 (List.mem_singleton.mp mem2)
    · exact fun i v s1 s2 p m => p
    · intro i v s1 o Q2 E2 lt at_i stay walk own out
      have old := older stay.1
      obtain ⟨t, tt, rfl⟩ := pick at_i
      obtain ⟨xs, sq, item⟩ := entries i t tt
      rcases I.tuple sq with ⟨its2, vals2, tup, -⟩
      obtain ⟨u, at_u, tk, rfl⟩ := vals2.get item
      refine key_call B (show X.A.in1.depth < recursionLimit from room.depth) (old _ _ at_) ?_ (I.nolimit.keeps old) (tup.keeps old) (j := j) (by simpa using at_u) small fun g tk2 same _ => ?_
      · rcases code with ⟨c2, oc, vs, tq, e1, e2, e3, e4⟩
        exact ⟨c2, oc, vs, tq, e1, old _ _ e2, e3, e4⟩
      · exact out _ _ ⟨fun d o n1 n2 z => same _ _ (stay.1 d o n1 n2 z), stay.2⟩ ⟨walk.1.at fun o z => same _ _ z, walk.2.at fun o z => same _ _ z⟩ (same _ _ own) ⟨tk, rfl⟩ fun _ _ p => p
    · rintro i i2 _ _ s1 Q2 E2 stay ⟨t1, rfl⟩ ⟨t2, rfl⟩ out
      exact richCompare_gives (op := .Lt) (typeIs_int s1 _ t1) (typeIs_int s1 _ t2) F.slot_int_lt F.entry_int_lt (F.args_int_lt_2 _ _) (gives_int_lt _ _ t1 t2) (fun z => by cases z) out
  · rintro v ⟨hp, gs, dr, tk, os⟩ at_i ⟨k1, k2, k3, k4⟩
    obtain ⟨t, tt, rfl⟩ := pick at_i
    dsimp only at k2 k3 k4
    subst k2 k3 k4
    exact h t _ (by simpa using tt) (I.kept (t' := tk) (older k1))
theorem max_key (calm : X.calm = true) (room : Room (k + 1) X.A) (I : Inv X pins σ H s) (B : ByItem x j params body scope) (at_ : s.heap.get? f = some (PySem.W.kla_obj nm q params body scope [] pm c' ctv)) (code : s.heap.CodeRec (.ref c') q)
    (list : SqL X.K H l (ts.map V.ref)) (ne : ts ≠ []) (small : j < 1000) (entries : ∀ i t, ts[i]? = some t → ∃ xs, SqT X.K H t xs ∧ xs[j]? = some (V.int (key i)))
    (h : ∀ t s', ts[argBest (fun a b => decide (key a > key b)) (ts.length - 1)]? = some t → Inv X pins σ H s' → Q (.ref t) s') : wpAny (model X.prog X.w) X.A (call (.builtin "max") [.ref l] [(Str.ofString "key", .ref f)]) Q E s := by
  rcases I.list list with ⟨its, vals, plain, -⟩
  have refs : its = ts.map Value.ref := by
    clear plain list entries ne h
    induction ts generalizing its with
    | nil => cases vals; rfl
    | cons a r ih =>
      rcases vals with _ | ⟨e, more⟩
      rw [List.map_cons, ← ih _ more]
      rw [show _ = Value.ref a from e]
  subst refs
  have len0 : 0 < ts.length := List.length_pos_iff.mpr ne
  have lt_l : l < s.heap.objs.size := by obtain ⟨o, z, _⟩ := plain.isList; exact Heap.lt_size z
  have up : ∀ b o, s.heap.get? b = some o → (s.heap.push (walkObj l)).get? b = some o := fun b o z => Heap.get?_push_of_some _ z
  have older : ∀ {g : Heap}, (∀ d o, d ≠ s.heap.objs.size → d ≠ (s.heap.push (walkObj l)).objs.size → (s.heap.push (walkObj l)).get? d = some o → g.get? d = some o) → ∀ b o, s.heap.get? b = some o → g.get? b = some o := fun stay b o z =>
    stay b o (Nat.ne_of_lt (Heap.lt_size z)) (Nat.ne_of_lt (by rw [Heap.size_push]; exact Nat.lt_succ_of_lt (Heap.lt_size z))) (up b o z)
  have pick : ∀ {i : Nat} {v : Value}, (ts.map Value.ref).toArray[i]? = some v → ∃ t, ts[i]? = some t ∧ v = .ref t := fun {i v} z => by
    rw [List.getElem?_toArray, List.getElem?_map] at z
    obtain ⟨t, e, rfl⟩ := Option.map_eq_some_iff.mp z
    exact ⟨t, e, rfl⟩
  refine call_max_walkK ?_
  refine wpAny_pyIter_list plain.isList ?_
  refine ⟨s.heap.objs.size, [s.heap.objs.size, l], [s.heap.objs.size], fun a b => b = a, (ts.map Value.ref).toArray.size, _, _, KeyStay { s with heap := s.heap.push (walkObj l) } s.heap.objs.size (s.heap.push (walkObj l)).objs.size, fun i v _ => ∃ tk, v = .int (key i) tk, fun a b => decide (key a > key b), rfl,
    (Walks.list (prog := X.prog) (w := X.w) (A := X.A.in1) (I.ok.hd calm) s.heap.objs.size l (Nat.ne_of_lt lt_l) (ts.map Value.ref).toArray).toS, ⟨⟨_, Heap.get?_push_size _ rfl, rfl, rfl⟩, plain.isList.at fun o z => up _ _ z⟩, ?_, by simpa using len0, ?_, ⟨fun _ _ _ _ z => z, rfl, rfl, rfl⟩, ?_⟩
  · intro b mem
    rw [Heap.size_push]
    rcases List.mem_cons.mp mem with rfl | mem2
    · exact Nat.lt_succ_self _
    · rw [List.mem_singleton.mp mem2]; exact Nat.lt_succ_of_lt lt_l
  · refine ⟨?_, ?_, ?_, ?_⟩
    · rintro s1 s2 ⟨k1, k2, k3, k4⟩ m
      refine ⟨fun d o n1 n2 z => m.heap d o (fun mem => ?_) (k1 d o n1 n2 z), m.gens.trans k2, m.drawn.trans k3, m.os.trans k4⟩
      rcases List.mem_cons.mp mem with z | mem2
      · exact n2 z
      · exact n1 (List.mem_singleton.mp mem2)
    · exact fun i v s1 s2 p m => p
    · intro i v s1 o Q2 E2 lt at_i stay walk own out
      have old := older stay.1
      obtain ⟨t, tt, rfl⟩ := pick at_i
      obtain ⟨xs, sq, item⟩ := entries i t tt
      rcases I.tuple sq with ⟨its2, vals2, tup, -⟩
      obtain ⟨u, at_u, tk, rfl⟩ := vals2.get item
      refine key_call B (show X.A.in1.depth < recursionLimit from room.depth) (old _ _ at_) ?_ (I.nolimit.keeps old) (tup.keeps old) (j := j) (by simpa using at_u) small fun g tk2 same _ => ?_
      · rcases code with ⟨c2, oc, vs, tq, e1, e2, e3, e4⟩
        exact ⟨c2, oc, vs, tq, e1, old _ _ e2, e3, e4⟩
      · exact out _ _ ⟨fun d o n1 n2 z => same _ _ (stay.1 d o n1 n2 z), stay.2⟩ ⟨walk.1.at fun o z => same _ _ z, walk.2.at fun o z => same _ _ z⟩ (same _ _ own) ⟨tk, rfl⟩ fun _ _ p => p
    · rintro i i2 _ _ s1 Q2 E2 stay ⟨t1, rfl⟩ ⟨t2, rfl⟩ out
      exact richCompare_gives (op := .Gt) (typeIs_int s1 _ t1) (typeIs_int s1 _ t2) F.slot_int_gt F.entry_int_gt (F.args_int_gt_2 _ _) (gives_int_gt _ _ t1 t2) (fun z => by cases z) out
  · rintro v ⟨hp, gs, dr, tk, os⟩ at_i ⟨k1, k2, k3, k4⟩
    obtain ⟨t, tt, rfl⟩ := pick at_i
    dsimp only at k2 k3 k4
    subst k2 k3 k4
    exact h t _ (by simpa using tt) (I.kept (t' := tk) (older k1))
theorem clo_none {cells : List (Str × Addr)} : ∀ {names : List (Str × NameKind)} {acc : List (Str × Addr)}, (∀ y ∈ names, y.2 ≠ .cell ∧ y.2 ≠ .free) → cloFrom cells names acc = acc := by
  intro names
  induction names with
  | nil => intro acc _; rfl
  | cons y r ih =>
    intro acc no
    obtain ⟨n, k⟩ := y
    have hk := (no _ List.mem_cons_self).2
    cases k <;> first | exact ih (fun z hz => no z (List.mem_cons_of_mem _ hz)) | exact absurd rfl hk
/-- min(e, key=lambda x: x[j]): the table of the running code object grows, the answer is the first least -/
def tMinKey (K : PySem.W.Frag) (T : List (Addr × Str)) (j : Nat) (ta : TA) : TE := fun σ H Q => ta σ H fun vs H1 => ∃ (l : Addr) (ts : List Addr) (key : Nat → Int), vs = [.ref l] ∧ Tabs T H1 ∧ SqL K H1 l (ts.map V.ref) ∧ ts ≠ [] ∧ (∀ i t, ts[i]? = some t → ∃ xs, SqT K H1 t xs ∧ xs[j]? = some (V.int (key i))) ∧
  ∀ H2, ExtN H1 H2 → Tabs T H2 → ∀ t, ts[argBest (fun a b => decide (key a < key b)) (ts.length - 1)]? = some t → Q (.ref t) H2
/-- max(e, key=lambda x: x[j]): the table of the running code object grows, the answer is the first greatest -/
def tMaxKey (K : PySem.W.Frag) (T : List (Addr × Str)) (j : Nat) (ta : TA) : TE := fun σ H Q => ta σ H fun vs H1 => ∃ (l : Addr) (ts : List Addr) (key : Nat → Int), vs = [.ref l] ∧ Tabs T H1 ∧ SqL K H1 l (ts.map V.ref) ∧ ts ≠ [] ∧ (∀ i t, ts[i]? = some t → ∃ xs, SqT K H1 t xs ∧ xs[j]? = some (V.int (key i))) ∧
  ∀ H2, ExtN H1 H2 → Tabs T H2 → ∀ t, ts[argBest (fun a b => decide (key a > key b)) (ts.length - 1)]? = some t → Q (.ref t) H2
theorem ext_L {K : PySem.W.Frag} {H H' : Hp} {a : Addr} {xs : List V} (e : ExtN H H') (z : SqL K H a xs) : SqL K H' a xs := by
  rcases z with (y | ⟨u, y⟩) | y
  · exact .inl (.inl (e _ _ y (by intro ps w; cases w)))
  · exact .inl (.inr ⟨u, e _ _ y (by intro ps w; cases w)⟩)
  · exact .inr y
theorem ext_T {K : PySem.W.Frag} {H H' : Hp} {a : Addr} {xs : List V} (e : ExtN H H') (z : SqT K H a xs) : SqT K H' a xs := by
  rcases z with (y | ⟨u, y⟩) | y
  · exact .inl (.inl (e _ _ y (by intro ps w; cases w)))
  · exact .inl (.inr ⟨u, e _ _ y (by intro ps w; cases w)⟩)
  · exact .inr y
theorem pe_minKey {e : Expr} {ta : TA} {T : List (Addr × Str)} {c P : Addr} {lpos kpos cpos p : Pos} (calm : X.calm = true) (room : Room (k + 1) X.A) (hg : Gl X "min") (hm : X.mg "min" = none) (ha : PA X [e] ta) (B : ByItem x j params body scope) (small : j < 1000)
    (TB : TabB X.base X.mg c P) (hcode : X.env.code = .ref c) (mem : (P, X.env.qual ++ "<lambda>") ∈ T) (one : ∀ p ∈ T, p.1 = P → p.2 = X.env.qual ++ "<lambda>") (def0 : defaultsOf params X.env = ([], []))
    (hst : backTo cpos (starEach [e] X.env) = (false, eval e X.env) :: backTo cpos (starEach [] X.env) := by rfl) (hpl : (backTo cpos (starEach [e] X.env)).any (·.1) = false := by rfl) :
    PE X (.Call (.Name "min" p) [e] [⟨some "key", .Lambda params body scope lpos, kpos⟩] cpos) (tMinKey X.K T j ta) := by
  refine ⟨fun pins s σ H Q I wish => ?_⟩
  refine wpAny_Call_Name_kw (ld_blt I hg hm (show bootBuiltins "min" = some (.builtin "min") by decide +kernel) ?_ (by decide) (by decide))
  refine PyProof.Rows.callWith_kw (thn (ha.run cpos pins s σ H _ I wish) ?_) hst hpl rfl rfl
  rintro us s1 ⟨_, H1, I1, vals, l, ts, key, rfl, tabs, list, ne, entries, ends⟩
  rcases vals with _ | ⟨el, nil_⟩
  cases nil_
  obtain rfl := (show _ = Value.ref l from el)
  show wpAny _ _ (evalAll [do let v ← eval (.Lambda params body scope lpos) X.env; standAt cpos; pure v]) _ _ _
  refine wpAny_evalAll_cons (wpAny_bind ?_)
  refine lam_make2 I1 TB hcode mem one tabs def0 (fun y hy free => absurd free (B.none_ y hy).2) fun f c' pm ctv H2 s2 I2 ext tabs2 at_ _ _ codeO => ?_
  refine wpAny_bind (wpAny_standAt (wpAny_pure (wpAny_evalAll_nil ?_)))
  rw [clo_none B.none_] at at_
  show wpAny _ _ (call (.builtin "min") [.ref l] [(Str.ofString "key", .ref f)]) _ _ _
  refine min_key calm room (I2.tok _) B at_ (NdefX.codeO_at I2.hok codeO) (ext_L ext list) ne small (fun i t z => let ⟨xs, sq, it⟩ := entries i t z; ⟨xs, ext_T ext sq, it⟩) fun t s3 best I3 => ?_
  exact ⟨.ref t, H2, I3, rfl, ends H2 ext tabs2 t best⟩
theorem pe_maxKey {e : Expr} {ta : TA} {T : List (Addr × Str)} {c P : Addr} {lpos kpos cpos p : Pos} (calm : X.calm = true) (room : Room (k + 1) X.A) (hg : Gl X "max") (hm : X.mg "max" = none) (ha : PA X [e] ta) (B : ByItem x j params body scope) (small : j < 1000)
    (TB : TabB X.base X.mg c P) (hcode : X.env.code = .ref c) (mem : (P, X.env.qual ++ "<lambda>") ∈ T) (one : ∀ p ∈ T, p.1 = P → p.2 = X.env.qual ++ "<lambda>") (def0 : defaultsOf params X.env = ([], []))
    (hst : backTo cpos (starEach [e] X.env) = (false, eval e X.env) :: backTo cpos (starEach [] X.env) := by rfl) (hpl : (backTo cpos (starEach [e] X.env)).any (·.1) = false := by rfl) :
    PE X (.Call (.Name "max" p) [e] [⟨some "key", .Lambda params body scope lpos, kpos⟩] cpos) (tMaxKey X.K T j ta) := by
  refine ⟨fun pins s σ H Q I wish => ?_⟩
  refine wpAny_Call_Name_kw (ld_blt I hg hm (show bootBuiltins "max" = some (.builtin "max") by decide +kernel) ?_ (by decide) (by decide))
  refine PyProof.Rows.callWith_kw (thn (ha.run cpos pins s σ H _ I wish) ?_) hst hpl rfl rfl
  rintro us s1 ⟨_, H1, I1, vals, l, ts, key, rfl, tabs, list, ne, entries, ends⟩
  rcases vals with _ | ⟨el, nil_⟩
  cases nil_
  obtain rfl := (show _ = Value.ref l from el)
  show wpAny _ _ (evalAll [do let v ← eval (.Lambda params body scope lpos) X.env; standAt cpos; pure v]) _ _ _
  refine wpAny_evalAll_cons (wpAny_bind ?_)
  refine lam_make2 I1 TB hcode mem one tabs def0 (fun y hy free => absurd free (B.none_ y hy).2) fun f c' pm ctv H2 s2 I2 ext tabs2 at_ _ _ codeO => ?_
  refine wpAny_bind (wpAny_standAt (wpAny_pure (wpAny_evalAll_nil ?_)))
  rw [clo_none B.none_] at at_
  show wpAny _ _ (call (.builtin "max") [.ref l] [(Str.ofString "key", .ref f)]) _ _ _
  refine max_key calm room (I2.tok _) B at_ (NdefX.codeO_at I2.hok codeO) (ext_L ext list) ne small (fun i t z => let ⟨xs, sq, it⟩ := entries i t z; ⟨xs, ext_T ext sq, it⟩) fun t s3 best I3 => ?_
  exact ⟨.ref t, H2, I3, rfl, ends H2 ext tabs2 t best⟩
end
/-! ### the end of a law, the table of one def's code objects told -/
theorem walkT {l : PySem.W.OpenLaw} {q : Program} {loose : List Str} {XP : (Str → Option Value) → Heap → Prop} {YP : World → Heap → Prop} {d d2 : DefRec} {K : Params → PySem.W.Frag} {n k : Nat} {x y : Str} {sp : PySem.W.Frag → Addr → Sp}
    (hn : l.most = some n) (hn2 : n ≤ sizeLine) (hdf : d.params.defaults = []) (room : Room k callerA) (hY : ∀ (w : World) (h : Heap), YP w h → (K w.params).In h) (rec_ : (recsOf q).find? (fun e => e.name == y) = some d2)
    (start : ∀ (K : PySem.W.Frag) (P : Addr) (H : Hp) (a : Addr) (ns : List Int), ns.length ≤ n → H P = some (.tbl #[]) → SqL K H a (ns.map V.int) → sp K P [.ref a] H (fun v _ => v = .bl true) fun _ _ _ => False)
    (F : ∀ (w : World) (mg : Str → Option Value) (fa : Addr) (h : Heap), (K w.params).In h → h.Ns mainGlobals mg → mg d.name = some (.ref fa) →
      ∃ (fd : FuncData) (c P : Addr), PySem.W.tabIn (K w.params) y = some (c, P) ∧ (K w.params).lookup P = none ∧ (∀ (s : Shared) (u : Value), BindsTo s fd ⟨[u], []⟩ [(x, u)]) ∧
        ∀ base : Heap, (K w.params).In base → base.Ns mainGlobals mg → TabB base mg c P → FnOk l.prog w (K w.params) mg base L2.CX0 k fa fd [x] (sp (K w.params) P)) :
    PySem.W.WalkO q loose XP YP l.row.toRowW d [] (fun f vs => PySem.call f vs) := by
  refine Att.attach_callB hn hdf fun w s₀ s₁ mg mb fa o pm cd doc a vs ns G Y ho hd hcd hmg hobj hints hlen hbits hg => ?_
  have inK := hY w _ Y
  obtain ⟨fd, c, P, tab, out, bind, ok⟩ := F w mg fa _ inK G.T.g hmg
  obtain ⟨code, empty⟩ := PySem.W.tab_of G.T inK rec_ tab
  refine law_callTs (cs := [(c, P)]) inK G.T.g G.T.b G.T.builtins G.T.nolimit hg (fun p mem => ?_) (fun p mem => ?_) (fun p mem => ?_) G.T.bmain hobj hints (Nat.le_trans hlen hn2) room (fun base b1 b2 b3 => ok base b1 b2 (b3 (c, P) List.mem_cons_self)) bind
    (fun H hH hS => start _ P H a ns hlen (hH (c, P) List.mem_cons_self) hS) fun H e s' z => z
  · rw [List.mem_singleton.mp mem]; exact empty
  · rw [List.mem_singleton.mp mem]; exact out
  · rw [List.mem_singleton.mp mem]; exact code
end Pf

namespace Pf
open PySem L2
local macro_rules | `(tactic| walk_at "rd1") => `(tactic| first
  | with_reducible refine r_seqA ?_
  | with_reducible refine r_seqD ?_
  | with_reducible refine r_seqF ?_
  | with_reducible refine r_seqN ?_
  | with_reducible refine r_asg ?_
  | with_reducible refine r_drop ?_
  | with_reducible refine r_ret ?_
  | with_reducible refine r_ifS ?_
  | ((with_reducible refine r_next ?_); try dsimp only)
  | ((with_reducible refine r_name ?_); try dsimp only [List.set_cons_succ, List.set_cons_zero, wipe])
  | ((with_reducible refine' r_var ?rdh ?_); (case rdh => rfl))
  | with_reducible refine r_c ?_
  | with_reducible refine r_op ?_
  | with_reducible refine r_un ?_
  | with_reducible refine r_I0 ?_
  | ((with_reducible refine r_I ?_ ?_); (· first | decide | exact Or.inl (by decide) | exact Or.inr (by decide) | (show _ ∧ _; constructor <;> decide) | (show (0:Int) < _; omega) | (show CDiv _ _; unfold CDiv; omega) ))
  | with_reducible refine r_U ?_
  | with_reducible refine r_eqI ?_
  | with_reducible refine r_neI ?_
  | with_reducible refine r_eqB ?_
  | with_reducible refine r_neB ?_
  | with_reducible refine r_test ?_
  | with_reducible refine r_B ?_
  | with_reducible refine r_bl ?_
  | with_reducible refine r_bl2 ?_
  | with_reducible refine r_yes ?_
  | with_reducible refine r_wipe (by rfl) ?_
  | with_reducible refine r_rfl ?_
  | ((with_reducible refine' r_eqA ?rdh ?_); (case rdh => rfl))
  | with_reducible refine r_and ?_
  | with_reducible refine r_or ?_
  | with_reducible refine r_not ?_
  | with_reducible refine r_andV ?_
  | with_reducible refine r_orV ?_
  | with_reducible refine r_notV ?_
  | with_reducible refine r_ifE ?_
  | with_reducible refine r_nil ?_
  | with_reducible refine r_cons ?_
  | with_reducible refine r_tup ?_
  | with_reducible refine r_lst ?_
  | with_reducible refine r_CB ?_
  | with_reducible refine r_call ?_
  | with_reducible refine r_bm ?_
  | with_reducible refine r_bm0 ?_
  | with_reducible refine r_int ?_
  | with_reducible refine r_i2 ?_
  | with_reducible refine r_i1 ?_
  | with_reducible refine r_gcons ?_
  | with_reducible refine r_gnil ?_
  | with_reducible refine r_gsub ?_
  | with_reducible refine iteT ?_
  | with_reducible refine iteF ?_
  | with_reducible refine ite_notT ?_
  | with_reducible refine ite_notF ?_
  | with_reducible refine r_isi_ib ?_
  | with_reducible refine r_isi_ii ?_
  | with_reducible refine r_isi_bb ?_
  | with_reducible refine r_isi_nb ?_
  | with_reducible refine r_isi_nt ?_
  | ((with_reducible refine' r_isi_ll ?rdh ?_); (case rdh => first | assumption | exact upd_same))
  | ((with_reducible refine' r_isi_tt ?rdh ?_); (case rdh => first | assumption | exact upd_same))
  | with_reducible refine r_sl ?_
  | with_reducible refine r_noPart ?_
  | with_reducible refine r_part ?_
  | with_reducible refine r_int1 ?_
  | with_reducible refine r_tru ?_
  | with_reducible refine r_ckw ?_
  | with_reducible refine r_lc ?_
  | with_reducible refine r_lc2 ?_
  | with_reducible refine r_forS ?_
  | with_reducible refine r_iR1 ?_
  | with_reducible refine r_iR2 ?_
  | with_reducible refine r_iL ?_
  | ((with_reducible refine' r_lenL ?rdh ?_); (case rdh => walk_at "sq"))
  | ((with_reducible refine' r_ixL ?rdh ?rda ?_); (case rdh => walk_at "sq"); (case rda => walk_at "at"))
  | ((with_reducible refine' r_ixT ?rdh ?rda ?_); (case rdh => walk_at "sq"); (case rda => walk_at "at")))
local macro_rules | `(tactic| walk_at "sq") => `(tactic| first
  | assumption
  | exact SqL.of (by assumption)
  | exact SqL.of upd_same
  | exact SqT.of (by assumption)
  | exact SqT.of upd_same)
local macro_rules | `(tactic| walk_at "sml") => `(tactic| (rw [sizeLine_eq]; simp))
local macro_rules | `(tactic| walk_at "at") => `(tactic| first | assumption | rfl)
local macro_rules | `(tactic| walk_at "rd") => `(tactic| repeat walk_at "rd1")
local macro_rules | `(tactic| walk_at "rd1") => `(tactic| first
  | with_reducible refine r_addS ?_
  | with_reducible refine r_lenS ?_
  | with_reducible refine r_eqS ?_
  | with_reducible refine r_neS ?_
  | with_reducible refine r_iES ?_
  | with_reducible refine r_iES1 ?_
  | with_reducible refine r_iEL ?_)
section
variable {w : World} {P : Program} {base : Heap} {K : PySem.W.Frag} {mg : Str → Option Value}
def topS (i : Nat) : Stmt := PySem.Challenge.pw_heapgame_k04_places_of_policies.main.body.getD i (.Pass ⟨0, 0, 0, 0⟩)
abbrev s_law_cell : Stmt := topS 8
theorem sc_law_cell : FnScope ["script", "k"] ["script", "k"] (defScope s_law_cell) := ⟨rfl, rfl, rfl, by decide +kernel, rfl, by decide +kernel, by decide +kernel⟩
abbrev s_law_digits : Stmt := topS 9
theorem sc_law_digits : FnScope ["script", "first", "last", "digits", "k", "cell", "turn", "seed"] ["script", "first", "last"] (defScope s_law_digits) := ⟨rfl, rfl, rfl, by decide +kernel, rfl, by decide +kernel, by decide +kernel⟩
abbrev s_law_draw : Stmt := topS 10
theorem sc_law_draw : FnScope ["box", "many", "at"] ["box", "many"] (defScope s_law_draw) := ⟨rfl, rfl, rfl, by decide +kernel, rfl, by decide +kernel, by decide +kernel⟩
abbrev s_law_blocks : Stmt := topS 16
theorem sc_law_blocks : FnScope ["box", "size", "most", "blocks", "at", "k", "start", "length"] ["box", "size", "most"] (defScope s_law_blocks) := ⟨rfl, rfl, rfl, by decide +kernel, rfl, by decide +kernel, by decide +kernel⟩
abbrev s_law_cells : Stmt := topS 17
theorem sc_law_cells : FnScope ["size", "blocks", "cells", "k", "at"] ["size", "blocks"] (defScope s_law_cells) := ⟨rfl, rfl, rfl, by decide +kernel, rfl, by decide +kernel, by decide +kernel⟩
abbrev s_law_runs : Stmt := topS 18
theorem sc_law_runs : FnScope ["cells", "runs", "at"] ["cells"] (defScope s_law_runs) := ⟨rfl, rfl, rfl, by decide +kernel, rfl, by decide +kernel, by decide +kernel⟩
abbrev s_gaps : Stmt := topS 1
theorem sc_gaps : FnScope ["size", "layout", "found", "end", "start", "length"] ["size", "layout"] (defScope s_gaps) := ⟨rfl, rfl, rfl, by decide +kernel, rfl, by decide +kernel, by decide +kernel⟩
abbrev s_places : Stmt := topS 3
theorem sc_places : FnScope ["size", "layout", "length", "start", "cells", "place"] ["size", "layout", "length"] (defScope s_places) := ⟨rfl, rfl, rfl, by decide +kernel, rfl, by decide +kernel, by decide +kernel⟩
abbrev s_first_place : Stmt := topS 4
theorem sc_first_place : FnScope ["found", "cursor", "start"] ["found", "cursor"] (defScope s_first_place) := ⟨rfl, rfl, rfl, by decide +kernel, rfl, by decide +kernel, by decide +kernel⟩
abbrev s_chosen_area : Stmt := topS 6
theorem sc_chosen_area : FnScope ["areas", "policy"] ["areas", "policy"] (defScope s_chosen_area) := ⟨rfl, rfl, rfl, by decide +kernel, rfl, by decide +kernel, by decide +kernel⟩
abbrev s_place_block : Stmt := topS 5
theorem sc_place_block : FnScope ["size", "layout", "length", "policy", "cursor", "wide", "start", "cells"] ["size", "layout", "length", "policy", "cursor"] (defScope s_place_block) := ⟨rfl, rfl, rfl, by decide +kernel, rfl, by decide +kernel, by decide +kernel⟩
abbrev s_law_due : Stmt := topS 20
theorem sc_law_due : FnScope ["runs", "length", "policy", "cursor", "found", "run", "start", "best"] ["runs", "length", "policy", "cursor"] (defScope s_law_due) := ⟨rfl, rfl, rfl, by decide +kernel, rfl, by decide +kernel, by decide +kernel⟩
abbrev s_law : Stmt := topS 21
theorem sc_law : FnScope ["script", "box", "size", "layout", "kept", "block", "runs", "length", "cursor", "policy", "actual"] ["script"] (defScope s_law) := ⟨rfl, rfl, rfl, by decide +kernel, rfl, by decide +kernel, by decide +kernel⟩
structure Txt (mg : Str → Option Value) : Prop where
  bool : mg "bool" = none
  int : mg "int" = none
  isinstance : mg "isinstance" = none
  len : mg "len" = none
  max : mg "max" = none
  min : mg "min" = none
  range : mg "range" = none
def sp_cell (K : PySem.W.Frag) : Sp := fun vs H Q _ => ∃ (a : Addr) (ns : List Int) (k : Nat), vs = [.ref a, .int k] ∧ SqL K H a (ns.map V.int) ∧ ∀ c, Q (.int c) H
theorem mk_law_cell {f : Addr} {fd : FuncData} (T : Txt mg) (F : Fun K "_law_cell" "_law_cell" s_law_cell f fd) (m : mg "_law_cell" = some (.ref f)) (b : Binds K fd ["script", "k"] []) :
    Cal P w K mg base "_law_cell" 1 f fd ["script", "k"] (sp_cell K) := by
  refine ⟨F.ok sc_law_cell (fun vs H Q E h => ?_) (fun cdv A outer s H vs Q E hr h => ?_), m, F.kp, b⟩
  · rcases h with ⟨a, ns, k, rfl, _⟩
    rfl
  obtain ⟨a, ns, k, rfl, hS, q⟩ := h
  refine ⟨_, (pss_cons (ps_if (pt_cmpR op_lt (pv 1) (pe_callB (show CallR _ _ (fun xs H Q => ∃ p ys, xs = [V.ref p] ∧ (SqL K H p ys ∨ SqT K H p ys) ∧ Q (.int ys.length) H) from call_len_seq) (by rfl) T.len PySem.boot_len (pa_cons (pv 0) pa_nil)) (nomark _))
      (pss_one (ps_ret (pe_ix (show IxR _ (rIxL K) from ix_list) (pv 0) (pv 1) (fun _ _ => rfl))))
      pss_nil) (pss_one (ps_ret pe_int))), ?_⟩
  try dsimp only [cxOf, Cx.nox, Cx.wish]
  rw [show start ["script", "k"] [V.ref a, V.int k] = [some (V.ref a), some (V.int k)] from rfl]
  refine r_seq ?_
  walk_at "rd"
  refine r_ite (fun c => ?_) (fun c => ?_)
  · rw [List.length_map] at c
    walk_at "rd"
    refine r_ixL hS (at_int (by omega) (by omega)) ?_
    exact q _
  · walk_at "rd"
    exact q _
def sp_digits (K : PySem.W.Frag) : Sp := fun vs H Q _ => ∃ (a : Addr) (ns : List Int) (f l : Nat), vs = [.ref a, .int f, .int l] ∧ SqL K H a (ns.map V.int) ∧ f ≤ l ∧ l ≤ 63 ∧
  ∀ (p : Addr) (ds : List Int) (H' : Hp), H p = none → Same H H' → H' p = some (.lst (ds.map V.int)) → ds.length ≤ 60 * (l - f) → Q (.ref p) H'
theorem mk_law_digits {f f1 : Addr} {fd fd1 : FuncData} (T : Txt mg) (F : Fun K "_law_digits" "_law_digits" s_law_digits f fd) (m : mg "_law_digits" = some (.ref f)) (b : Binds K fd ["script", "first", "last"] [])
    (C_law_cell : Cal P w K mg base "_law_cell" 1 f1 fd1 ["script", "k"] (sp_cell K)) :
    Cal P w K mg base "_law_digits" 2 f fd ["script", "first", "last"] (sp_digits K) := by
  refine ⟨F.ok sc_law_digits (fun vs H Q E h => ?_) (fun cdv A outer s H vs Q E hr h => ?_), m, F.kp, b⟩
  · obtain ⟨a, ns, f, l, rfl, _⟩ := h
    rfl
  obtain ⟨a, ns, f, l, rfl, hS, hfl, hl, q⟩ := h
  refine ⟨_, (pss_cons (ps_set (i := 3) sc_law_digits.nd rfl (Or.inl rfl) (pe_lst pa_nil)) (pss_cons (ps_for PassesOwn.never rfl (pi_range2 rfl T.range (pa_cons (pv 1) (pa_cons (pv 2) pa_nil))) (pg_name (i := 4) sc_law_digits.nd rfl (Or.inl rfl))
      (pss_cons (ps_set (i := 5) sc_law_digits.nd rfl (Or.inl rfl) (pe_call C_law_cell.ok (hr.mono (by first | decide | omega)) rfl C_law_cell.mg C_law_cell.kp C_law_cell.b .nil pass0 (pa_cons (pv 0) (pa_cons (pv 4) pa_nil)))) (pss_cons (ps_if (pt_cmpR op_lt (pv 5) pe_int (nomark _))
      (pss_one (ps_set (i := 5) sc_law_digits.nd rfl (Or.inl rfl) (pe_op op_sub pe_int (pe_op op_mul pe_int (pv 5)))))
      pss_nil) (pss_one (ps_if (pt_cmpR op_ge (pv 5) (pe_op op_pow pe_int pe_int) (nomark _))
      (pss_one (ps_for PassesOwn.never rfl (pi_range1 rfl T.range (pa_cons pe_int pa_nil)) (pg_name (i := 6) sc_law_digits.nd rfl (Or.inl rfl))
      (pss_one (ps_if (pt_cmpR op_gt (pv 5) pe_int (nomark _))
      (pss_cons (ps_expr (pe_bm PySem.F.plainAttrs_list PySem.F.slot_list_append PySem.F.type_list_append mt_append (pv 3) (pa_cons (pe_op op_mod (pe_callTy call_int1 (by rfl) T.int (by decide +kernel) (pa_cons (pv 5) pa_nil)) pe_int) pa_nil))) (pss_one (ps_set (i := 5) sc_law_digits.nd rfl (Or.inl rfl) (pe_op op_fdiv (pv 5) pe_int))))
      pss_nil))))
      (pss_cons (ps_set (i := 7) sc_law_digits.nd rfl (Or.inl rfl) (pe_op op_mod (pe_callTy call_int1 (by rfl) T.int (by decide +kernel) (pa_cons (pe_op op_add (pe_op op_add (pe_op op_mul (pv 5) pe_int) (pe_op op_mul (pv 4) pe_int)) pe_int) pa_nil)) pe_int)) (pss_one (ps_for PassesOwn.never rfl (pi_range1 rfl T.range (pa_cons pe_int pa_nil)) (pg_name (i := 6) sc_law_digits.nd rfl (Or.inl rfl))
      (pss_cons (ps_set (i := 7) sc_law_digits.nd rfl (Or.inl rfl) (pe_op op_mod (pe_callTy call_int1 (by rfl) T.int (by decide +kernel) (pa_cons (pe_op op_add (pe_op op_add (pe_op op_mul (pv 7) pe_int) (pe_op op_mul pe_int (pv 6))) pe_int) pa_nil)) pe_int)) (pss_one (ps_expr (pe_bm PySem.F.plainAttrs_list PySem.F.slot_list_append PySem.F.type_list_append mt_append (pv 3) (pa_cons (pe_op op_mod (pe_callTy call_int1 (by rfl) T.int (by decide +kernel) (pa_cons (pe_op op_fdiv (pv 7) pe_int) pa_nil)) pe_int) pa_nil))))))))))))) (pss_one (ps_ret (pv 3))))), ?_⟩
  try dsimp only [cxOf, Cx.nox, Cx.wish]
  rw [show start ["script", "first", "last", "digits", "k", "cell", "turn", "seed"] [V.ref a, V.int f, V.int l] = [some (V.ref a), some (V.int f), some (V.int l), none, none, none, none, none] from rfl]
  walk_at "rd"
  refine ⟨by decide, fun p np => ?_⟩
  walk_at "rd"
  refine ⟨by omega, ?_⟩
  refine for_range (lo := (f : Int)) (n := ((l : Int) - f).toNat) (fun i σ H' => ∃ x4 x5 x6 x7 ds, σ = [some (.ref a), some (.int f), some (.int l), some (.ref p), x4, x5, x6, x7] ∧ Same H H' ∧ H' p = some (.lst (ds.map V.int)) ∧ ds.length ≤ 60 * i)
    ⟨none, none, none, none, [], rfl, same_upd np, upd_same, by simp⟩ ?_ ?_
  · rintro i σ H1 hi ⟨x4, x5, x6, x7, ds, rfl, s1, hp, hd⟩
    have npa : ∀ z, H1 p = some z → True := fun _ _ => trivial
    walk_at "rd"
    refine ⟨a, ns, f + i, by simp, s1.seq hS, fun c => ?_⟩
    walk_at "rd"
    refine r_seqG fun R hR => ?_
    have key : ∀ c2 : Int, R [some (.ref a), some (.int f), some (.int l), some (.ref p), some (.int (f + i)), some (.int c2), x6, x7] H1 := by
      intro c2
      refine hR _ _ ?_
      walk_at "rd"
      refine r_ite (fun c => ?_) (fun c => ?_)
      · walk_at "rd"
        refine ⟨by decide, by decide, ?_⟩
        refine for_range (lo := 0) (n := 60) (fun j σ H' => ∃ (y6 : Option V) (es : List Int) (c3 : Int), σ = [some (.ref a), some (.int f), some (.int l), some (.ref p), some (.int (f + i)), some (.int c3), y6, x7] ∧ Same H H' ∧ H' p = some (.lst (es.map V.int)) ∧ es.length ≤ 60 * i + j)
          ⟨x6, ds, c2, rfl, s1, hp, by omega⟩ ?_ ?_
        · rintro j σ H2 hj ⟨y6, es, c3, rfl, s2, hp2, he⟩
          walk_at "rd"
          refine r_ite (fun c => ?_) (fun c => ?_)
          · walk_at "rd"
            refine ⟨ty_lst hp2, ?_⟩
            walk_at "rd"
            refine r_app hp2 (by rw [List.length_map, sizeLine_eq]; omega) fun H3 hp3 u3 => ?_
            walk_at "rd"
            exact ⟨_, es ++ [c3 % 1000], _, rfl, u3.new np s2, by rw [hp3, List.map_append]; rfl, by rw [List.length_append]; simp; omega⟩
          · walk_at "rd"
            exact ⟨_, es, c3, rfl, s2, hp2, by omega⟩
        · rintro σ H2 ⟨y6, es, c3, rfl, s2, hp2, he⟩
          exact ⟨_, _, _, _, es, rfl, s2, hp2, by omega⟩
      · walk_at "rd"
        refine ⟨by decide, by decide, ?_⟩
        refine for_range (lo := 0) (n := 12) (fun j σ H' => ∃ (y6 : Option V) (es : List Int) (c3 : Int), σ = [some (.ref a), some (.int f), some (.int l), some (.ref p), some (.int (f + i)), some (.int c2), y6, some (.int c3)] ∧ Same H H' ∧ H' p = some (.lst (es.map V.int)) ∧ es.length ≤ 60 * i + j)
          ⟨x6, ds, _, rfl, s1, hp, by omega⟩ ?_ ?_
        · rintro j σ H2 hj ⟨y6, es, c3, rfl, s2, hp2, he⟩
          walk_at "rd"
          refine ⟨ty_lst hp2, ?_⟩
          walk_at "rd"
          refine r_app hp2 (by rw [List.length_map, sizeLine_eq]; omega) fun H3 hp3 u3 => ?_
          walk_at "rd"
          exact ⟨_, es ++ [_], _, rfl, u3.new np s2, by rw [hp3, List.map_append]; rfl, by rw [List.length_append]; simp; omega⟩
        · rintro σ H2 ⟨y6, es, c3, rfl, s2, hp2, he⟩
          exact ⟨_, _, _, _, es, rfl, s2, hp2, by omega⟩
    walk_at "rd"
    refine r_ite (fun c => ?_) (fun c => ?_)
    · walk_at "rd"
      exact key _
    · walk_at "rd"
      exact key _
  · rintro σ H1 ⟨x4, x5, x6, x7, ds, rfl, s1, hp, hd⟩
    walk_at "rd"
    exact q p ds H1 np s1 hp (by omega)
def sp_draw : Sp := fun vs H Q _ => ∃ (b d : Addr) (m : Int), vs = [.ref b, .int m] ∧ 0 < m ∧ Bx H b d ∧ ∀ (r : Int) (H' : Hp), 0 ≤ r → r < m → Bx H' b d → But b H H' → Q (.int r) H'
theorem mk_law_draw {f : Addr} {fd : FuncData} (T : Txt mg) (F : Fun K "_law_draw" "_law_draw" s_law_draw f fd) (m : mg "_law_draw" = some (.ref f)) (b : Binds K fd ["box", "many"] []) :
    Cal P w K mg base "_law_draw" 1 f fd ["box", "many"] sp_draw := by
  refine ⟨F.ok sc_law_draw (fun vs H Q E h => ?_) (fun cdv A outer s H vs Q E hr h => ?_), m, F.kp, b⟩
  · obtain ⟨b, d, m, rfl, _⟩ := h
    rfl
  obtain ⟨b, d, m, rfl, hm, ⟨ds, k, hb, hd, nd⟩, q⟩ := h
  refine ⟨_, (pss_cons (ps_set (i := 2) sc_law_draw.nd rfl (Or.inl rfl) (pe_ix (show IxR _ (rIxL K) from ix_list) (pv 0) pe_int (fun _ _ => rfl))) (pss_cons (ps_asg (pe_op op_add (pv 2) pe_int) (pg_sub (pv 0) pe_int set_list)) (pss_cons (ps_if (pt_cmpR op_lt (pv 2) (pe_callB (show CallR _ _ (fun xs H Q => ∃ p ys, xs = [V.ref p] ∧ (SqL K H p ys ∨ SqT K H p ys) ∧ Q (.int ys.length) H) from call_len_seq) (by rfl) T.len PySem.boot_len (pa_cons (pe_ix (show IxR _ (rIxL K) from ix_list) (pv 0) pe_int (fun _ _ => rfl)) pa_nil)) (nomark _))
      (pss_one (ps_ret (pe_op op_mod (pe_callTy call_int1 (by rfl) T.int (by decide +kernel) (pa_cons (pe_ix (show IxR _ (rIxL K) from ix_list) (pe_ix (show IxR _ (rIxL K) from ix_list) (pv 0) pe_int (fun _ _ => rfl)) (pv 2) (fun _ _ => rfl)) pa_nil)) (pv 1))))
      pss_nil) (pss_one (ps_ret pe_int))))), ?_⟩
  try dsimp only [cxOf, Cx.nox, Cx.wish]
  rw [show start ["box", "many", "at"] [V.ref b, V.int m] = [some (V.ref b), some (V.int m), none] from rfl]
  walk_at "rd"
  refine r_setL hb (j := 1) rfl fun H1 hb1 u1 => ?_
  have hd1 := u1 _ _ nd hd
  refine r_seq ?_
  walk_at "rd"
  have B1 : Bx H1 b d := ⟨ds, k + 1, hb1, hd1, nd⟩
  refine r_ite (fun c => ?_) (fun c => ?_)
  · rw [List.length_map] at c
    walk_at "rd"
    refine r_ixL (SqL.of hd1) (at_int (by omega) (by omega)) ?_
    walk_at "rd"
    exact q _ _ (Int.emod_nonneg _ (by omega)) (Int.emod_lt_of_pos _ hm) B1 u1
  · walk_at "rd"
    exact q _ _ (by omega) hm B1 u1
end
end Pf

namespace Pf
open PySem L2
local macro_rules | `(tactic| walk_at "rd1") => `(tactic| first
  | with_reducible refine r_seqA ?_
  | with_reducible refine r_seqD ?_
  | with_reducible refine r_seqF ?_
  | with_reducible refine r_seqN ?_
  | with_reducible refine r_asg ?_
  | with_reducible refine r_drop ?_
  | with_reducible refine r_ret ?_
  | with_reducible refine r_ifS ?_
  | ((with_reducible refine r_next ?_); try dsimp only)
  | ((with_reducible refine r_name ?_); try dsimp only [List.set_cons_succ, List.set_cons_zero, wipe])
  | ((with_reducible refine' r_var ?rdh ?_); (case rdh => rfl))
  | with_reducible refine r_c ?_
  | with_reducible refine r_op ?_
  | with_reducible refine r_un ?_
  | with_reducible refine r_I0 ?_
  | ((with_reducible refine r_I ?_ ?_); (· first | decide | exact Or.inl (by decide) | exact Or.inr (by decide) | (show _ ∧ _; constructor <;> decide) | (show (0:Int) < _; omega) | (show CDiv _ _; unfold CDiv; omega) ))
  | with_reducible refine r_U ?_
  | with_reducible refine r_eqI ?_
  | with_reducible refine r_neI ?_
  | with_reducible refine r_eqB ?_
  | with_reducible refine r_neB ?_
  | with_reducible refine r_test ?_
  | with_reducible refine r_B ?_
  | with_reducible refine r_bl ?_
  | with_reducible refine r_bl2 ?_
  | with_reducible refine r_yes ?_
  | with_reducible refine r_wipe (by rfl) ?_
  | with_reducible refine r_rfl ?_
  | ((with_reducible refine' r_eqA ?rdh ?_); (case rdh => rfl))
  | with_reducible refine r_and ?_
  | with_reducible refine r_or ?_
  | with_reducible refine r_not ?_
  | with_reducible refine r_andV ?_
  | with_reducible refine r_orV ?_
  | with_reducible refine r_notV ?_
  | with_reducible refine r_ifE ?_
  | with_reducible refine r_nil ?_
  | with_reducible refine r_cons ?_
  | with_reducible refine r_tup ?_
  | with_reducible refine r_lst ?_
  | with_reducible refine r_CB ?_
  | with_reducible refine r_call ?_
  | with_reducible refine r_bm ?_
  | with_reducible refine r_bm0 ?_
  | with_reducible refine r_int ?_
  | with_reducible refine r_i2 ?_
  | with_reducible refine r_i1 ?_
  | with_reducible refine r_gcons ?_
  | with_reducible refine r_gnil ?_
  | with_reducible refine r_gsub ?_
  | with_reducible refine iteT ?_
  | with_reducible refine iteF ?_
  | with_reducible refine ite_notT ?_
  | with_reducible refine ite_notF ?_
  | with_reducible refine r_isi_ib ?_
  | with_reducible refine r_isi_ii ?_
  | with_reducible refine r_isi_bb ?_
  | with_reducible refine r_isi_nb ?_
  | with_reducible refine r_isi_nt ?_
  | ((with_reducible refine' r_isi_ll ?rdh ?_); (case rdh => first | assumption | exact upd_same))
  | ((with_reducible refine' r_isi_tt ?rdh ?_); (case rdh => first | assumption | exact upd_same))
  | with_reducible refine r_sl ?_
  | with_reducible refine r_noPart ?_
  | with_reducible refine r_part ?_
  | with_reducible refine r_int1 ?_
  | with_reducible refine r_tru ?_
  | with_reducible refine r_ckw ?_
  | with_reducible refine r_lc ?_
  | with_reducible refine r_lc2 ?_
  | with_reducible refine r_forS ?_
  | with_reducible refine r_iR1 ?_
  | with_reducible refine r_iR2 ?_
  | with_reducible refine r_iL ?_
  | ((with_reducible refine' r_lenL ?rdh ?_); (case rdh => walk_at "sq"))
  | ((with_reducible refine' r_ixL ?rdh ?rda ?_); (case rdh => walk_at "sq"); (case rda => walk_at "at"))
  | ((with_reducible refine' r_ixT ?rdh ?rda ?_); (case rdh => walk_at "sq"); (case rda => walk_at "at")))
local macro_rules | `(tactic| walk_at "sq") => `(tactic| first
  | assumption
  | exact SqL.of (by assumption)
  | exact SqL.of upd_same
  | exact SqT.of (by assumption)
  | exact SqT.of upd_same)
local macro_rules | `(tactic| walk_at "sml") => `(tactic| (rw [sizeLine_eq]; simp))
local macro_rules | `(tactic| walk_at "at") => `(tactic| first | assumption | rfl)
local macro_rules | `(tactic| walk_at "rd") => `(tactic| repeat walk_at "rd1")
local macro_rules | `(tactic| walk_at "rd1") => `(tactic| first
  | with_reducible refine r_addS ?_
  | with_reducible refine r_lenS ?_
  | with_reducible refine r_eqS ?_
  | with_reducible refine r_neS ?_
  | with_reducible refine r_iES ?_
  | with_reducible refine r_iES1 ?_
  | with_reducible refine r_iEL ?_)
section
variable {w : World} {P : Program} {base : Heap} {K : PySem.W.Frag} {mg : Str → Option Value}
def sp_blocks : Sp := fun vs H Q _ => ∃ (b d : Addr) (size : Int) (most : Nat), vs = [.ref b, .int size, .int most] ∧ 0 ≤ size ∧ most ≤ 1000 ∧ Bx H b d ∧
  ∀ (L : Addr) (bs : List (Int × Int)) (H' : Hp), H L = none → Bx H' b d → But b H H' → LT bV H' L bs → VL size 0 bs → bs.length ≤ most → Q (.ref L) H'
theorem mk_law_blocks {f f1 : Addr} {fd fd1 : FuncData} (T : Txt mg) (F : Fun K "_law_blocks" "_law_blocks" s_law_blocks f fd) (m : mg "_law_blocks" = some (.ref f)) (b : Binds K fd ["box", "size", "most"] [])
    (C_law_draw : Cal P w K mg base "_law_draw" 1 f1 fd1 ["box", "many"] sp_draw) :
    Cal P w K mg base "_law_blocks" 2 f fd ["box", "size", "most"] sp_blocks := by
  refine ⟨F.ok sc_law_blocks (fun vs H Q E h => ?_) (fun cdv A outer s H vs Q E hr h => ?_), m, F.kp, b⟩
  · obtain ⟨b, d, size, most, rfl, _⟩ := h
    rfl
  obtain ⟨b, d, size, most, rfl, hz, hm, B, q⟩ := h
  refine ⟨_, (pss_cons (ps_set (i := 3) sc_law_blocks.nd rfl (Or.inl rfl) (pe_lst pa_nil)) (pss_cons (ps_set (i := 4) sc_law_blocks.nd rfl (Or.inl rfl) pe_int) (pss_cons (ps_for PassesOwn.never rfl (pi_range1 rfl T.range (pa_cons (pv 2) pa_nil)) (pg_name (i := 5) sc_law_blocks.nd rfl (Or.inl rfl))
      (pss_cons (ps_set (i := 6) sc_law_blocks.nd rfl (Or.inl rfl) (pe_op op_add (pv 4) (pe_ix (show IxR _ (rIxL K) from ix_list) (pe_lst (pa_cons pe_int (pa_cons pe_int (pa_cons pe_int (pa_cons pe_int (pa_cons pe_int (pa_cons pe_int pa_nil))))))) (pe_call C_law_draw.ok (hr.mono (by first | decide | omega)) rfl C_law_draw.mg C_law_draw.kp C_law_draw.b .nil pass0 (pa_cons (pv 0) (pa_cons pe_int pa_nil))) (fun _ _ => rfl)))) (pss_cons (ps_set (i := 7) sc_law_blocks.nd rfl (Or.inl rfl) (pe_op op_add pe_int (pe_ix (show IxR _ (rIxL K) from ix_list) (pe_lst (pa_cons pe_int (pa_cons pe_int (pa_cons pe_int (pa_cons pe_int (pa_cons pe_int (pa_cons pe_int pa_nil))))))) (pe_call C_law_draw.ok (hr.mono (by first | decide | omega)) rfl C_law_draw.mg C_law_draw.kp C_law_draw.b .nil pass0 (pa_cons (pv 0) (pa_cons pe_int pa_nil))) (fun _ _ => rfl)))) (pss_one (ps_if (PW.pt (pw_and (pt_cmpR op_le (pe_op op_add (pv 6) (pv 7)) (pv 1) (nomark _)) (pw_and1 (pt_cmpR op_gt (pe_call C_law_draw.ok (hr.mono (by first | decide | omega)) rfl C_law_draw.mg C_law_draw.kp C_law_draw.b .nil pass0 (pa_cons (pv 0) (pa_cons pe_int pa_nil))) pe_int (nomark _)))))
      (pss_cons (ps_expr (pe_bm PySem.F.plainAttrs_list PySem.F.slot_list_append PySem.F.type_list_append mt_append (pv 3) (pa_cons (pe_tup (pa_cons (pv 6) (pa_cons (pv 7) pa_nil))) pa_nil))) (pss_one (ps_set (i := 4) sc_law_blocks.nd rfl (Or.inl rfl) (pe_op op_add (pv 6) (pv 7)))))
      pss_nil))))) (pss_one (ps_ret (pv 3)))))), ?_⟩
  try dsimp only [cxOf, Cx.nox, Cx.wish]
  rw [show start ["box", "size", "most", "blocks", "at", "k", "start", "length"] [V.ref b, V.int size, V.int most] = [some (V.ref b), some (V.int size), some (V.int most), none, none, none, none, none] from rfl]
  walk_at "rd"
  refine ⟨by walk_at "sml", fun L nL => ?_⟩
  have nLb : L ≠ b := B.ne nL
  have nLd : L ≠ d := B.neD nL
  refine upd_new nL fun H1 hL s1 => ?_
  walk_at "rd"
  refine And.intro (by omega) ⟨by omega, ?_⟩
  refine for_range (lo := 0) (n := most) (fun k σ H' => ∃ (x5 x6 x7 : Option V) (ts : List Addr) (bs : List (Int × Int)), σ = [some (.ref b), some (.int size), some (.int most), some (.ref L), some (.int (endOf 0 bs)), x5, x6, x7] ∧ Bx H' b d ∧ But b H H' ∧ H' L = some (.lst (ts.map V.ref)) ∧ TL bV H' ts bs ∧ VL size 0 bs ∧ bs.length ≤ k)
    ⟨_, _, _, [], [], rfl, B.same s1, .of s1, hL, .nil, hz, Nat.le_refl _⟩ ?_ ?_
  · rintro k σ H2 hk ⟨x5, x6, x7, ts, bs, rfl, B2, u2, hL2, ht, hv, hl⟩
    rw [Int.zero_add]
    walk_at "rd"
    refine ⟨by walk_at "sml", fun m1 nm1 => ?_⟩
    refine upd_new nm1 fun H3 hm1 s3 => ?_
    have B3 := B2.same s3
    walk_at "rd"
    refine ⟨b, d, 6, rfl, by decide, B3, fun r3 H4 r30 r31 B4 u4 => ?_⟩
    obtain ⟨v1, hv1m, hv1⟩ := menu (ns := [0, 0, 0, 1, 1, 2]) r30 r31
    have hv10 : 0 ≤ v1 := by simp at hv1m; omega
    refine r_ixL (SqL.of (u4 _ _ (B2.ne nm1) hm1)) hv1 ?_
    walk_at "rd"
    refine ⟨by walk_at "sml", fun m2 nm2 => ?_⟩
    refine upd_new nm2 fun H5 hm2 s5 => ?_
    have B5 := B4.same s5
    walk_at "rd"
    refine ⟨b, d, 6, rfl, by decide, B5, fun r4 H6 r40 r41 B6 u6 => ?_⟩
    obtain ⟨v2, hv2m, hv2⟩ := menu (ns := [0, 0, 1, 1, 2, 3]) r40 r41
    have hv20 : 0 ≤ v2 := by simp at hv2m; omega
    refine r_ixL (SqL.of (u6 _ _ (B4.ne nm2) hm2)) hv2 ?_
    walk_at "rd"
    have U6 : But b H2 H6 := ((But.of s3).trans u4).trans ((But.of s5).trans u6)
    have hL6 := U6 _ _ nLb hL2
    have ht6 := ht.box U6 B2
    have V6 := u2.trans U6
    refine r_ite (fun c1 => ?_) (fun c1 => ?_)
    · walk_at "rd"
      refine ⟨b, d, 6, rfl, by decide, B6, fun r5 H7 r50 r51 B7 u7 => ?_⟩
      walk_at "rd"
      have hL7 := u7 _ _ nLb hL6
      have ht7 := ht6.box u7 B6
      refine r_ite (fun c2 => ?_) (fun c2 => ?_)
      · walk_at "rd"
        refine ⟨ty_lst hL7, ?_⟩
        walk_at "rd"
        refine ⟨by walk_at "sml", fun t nt => ?_⟩
        refine upd_new nt fun H8 hnt s8 => ?_
        have hL8 := s8 _ _ hL7
        walk_at "rd"
        refine r_app hL8 (by rw [ht7.len, sizeLine_eq]; omega) fun H9 hL9 u9 => ?_
        walk_at "rd"
        have nW : But b H H9 := fun a o na e => by
          have nLa : a ≠ L := ne_of_none e nL
          exact u9 _ _ nLa (s8 _ _ (u7 _ _ na (V6 _ _ na e)))
        refine ⟨some (.int k), some (.int (endOf 0 bs + v1)), some (.int (1 + v2)), ts ++ [t], bs ++ [(endOf 0 bs + v1, 1 + v2)], ?_, (B7.same s8).but u9 nLb nLd, nW, by rw [hL9, List.map_append]; rfl, ((ht7.same s8).but u9 hL8).snoc (u9 _ _ (ne_of hnt hL8 (by intro z; cases z)) hnt), hv.snoc (by omega) (by omega) (by omega), ?_⟩
        · rw [endOf_snoc]
        · rw [List.length_append]
          simp
          omega
      · walk_at "rd"
        exact ⟨_, _, _, ts, bs, rfl, B7, V6.trans u7, hL7, ht7, hv, by omega⟩
    · walk_at "rd"
      exact ⟨_, _, _, ts, bs, rfl, B6, V6, hL6, ht6, hv, by omega⟩
  · rintro σ H2 ⟨x5, x6, x7, ts, bs, rfl, B2, u2, hL2, ht, hv, hl⟩
    walk_at "rd"
    exact q L bs H2 nL B2 u2 ⟨ts, hL2, ht⟩ hv hl
end
end Pf

namespace Pf
open PySem L2
local macro_rules | `(tactic| walk_at "rd1") => `(tactic| first
  | with_reducible refine r_seqA ?_
  | with_reducible refine r_seqD ?_
  | with_reducible refine r_seqF ?_
  | with_reducible refine r_seqN ?_
  | with_reducible refine r_asg ?_
  | with_reducible refine r_drop ?_
  | with_reducible refine r_ret ?_
  | with_reducible refine r_ifS ?_
  | ((with_reducible refine r_next ?_); try dsimp only)
  | ((with_reducible refine r_name ?_); try dsimp only [List.set_cons_succ, List.set_cons_zero, wipe])
  | ((with_reducible refine' r_var ?rdh ?_); (case rdh => rfl))
  | with_reducible refine r_c ?_
  | with_reducible refine r_op ?_
  | with_reducible refine r_un ?_
  | with_reducible refine r_I0 ?_
  | ((with_reducible refine r_I ?_ ?_); (· first | decide | exact Or.inl (by decide) | exact Or.inr (by decide) | (show _ ∧ _; constructor <;> decide) | (show (0:Int) < _; omega) | (show CDiv _ _; unfold CDiv; omega) ))
  | with_reducible refine r_U ?_
  | with_reducible refine r_eqI ?_
  | with_reducible refine r_neI ?_
  | with_reducible refine r_eqB ?_
  | with_reducible refine r_neB ?_
  | with_reducible refine r_test ?_
  | with_reducible refine r_B ?_
  | with_reducible refine r_bl ?_
  | with_reducible refine r_bl2 ?_
  | with_reducible refine r_yes ?_
  | with_reducible refine r_wipe (by rfl) ?_
  | with_reducible refine r_rfl ?_
  | ((with_reducible refine' r_eqA ?rdh ?_); (case rdh => rfl))
  | with_reducible refine r_and ?_
  | with_reducible refine r_or ?_
  | with_reducible refine r_not ?_
  | with_reducible refine r_andV ?_
  | with_reducible refine r_orV ?_
  | with_reducible refine r_notV ?_
  | with_reducible refine r_ifE ?_
  | with_reducible refine r_nil ?_
  | with_reducible refine r_cons ?_
  | with_reducible refine r_tup ?_
  | with_reducible refine r_lst ?_
  | with_reducible refine r_CB ?_
  | with_reducible refine r_call ?_
  | with_reducible refine r_bm ?_
  | with_reducible refine r_bm0 ?_
  | with_reducible refine r_int ?_
  | with_reducible refine r_i2 ?_
  | with_reducible refine r_i1 ?_
  | with_reducible refine r_gcons ?_
  | with_reducible refine r_gnil ?_
  | with_reducible refine r_gsub ?_
  | with_reducible refine iteT ?_
  | with_reducible refine iteF ?_
  | with_reducible refine ite_notT ?_
  | with_reducible refine ite_notF ?_
  | with_reducible refine r_isi_ib ?_
  | with_reducible refine r_isi_ii ?_
  | with_reducible refine r_isi_bb ?_
  | with_reducible refine r_isi_nb ?_
  | with_reducible refine r_isi_nt ?_
  | ((with_reducible refine' r_isi_ll ?rdh ?_); (case rdh => first | assumption | exact upd_same))
  | ((with_reducible refine' r_isi_tt ?rdh ?_); (case rdh => first | assumption | exact upd_same))
  | with_reducible refine r_sl ?_
  | with_reducible refine r_noPart ?_
  | with_reducible refine r_part ?_
  | with_reducible refine r_int1 ?_
  | with_reducible refine r_tru ?_
  | with_reducible refine r_ckw ?_
  | with_reducible refine r_lc ?_
  | with_reducible refine r_lc2 ?_
  | with_reducible refine r_forS ?_
  | with_reducible refine r_iR1 ?_
  | with_reducible refine r_iR2 ?_
  | with_reducible refine r_iL ?_
  | ((with_reducible refine' r_lenL ?rdh ?_); (case rdh => walk_at "sq"))
  | ((with_reducible refine' r_ixL ?rdh ?rda ?_); (case rdh => walk_at "sq"); (case rda => walk_at "at"))
  | ((with_reducible refine' r_ixT ?rdh ?rda ?_); (case rdh => walk_at "sq"); (case rda => walk_at "at")))
local macro_rules | `(tactic| walk_at "sq") => `(tactic| first
  | assumption
  | exact SqL.of (by assumption)
  | exact SqL.of upd_same
  | exact SqT.of (by assumption)
  | exact SqT.of upd_same)
local macro_rules | `(tactic| walk_at "sml") => `(tactic| (rw [sizeLine_eq]; simp))
local macro_rules | `(tactic| walk_at "at") => `(tactic| first | assumption | rfl)
local macro_rules | `(tactic| walk_at "rd") => `(tactic| repeat walk_at "rd1")
local macro_rules | `(tactic| walk_at "rd1") => `(tactic| first
  | with_reducible refine r_addS ?_
  | with_reducible refine r_lenS ?_
  | with_reducible refine r_eqS ?_
  | with_reducible refine r_neS ?_
  | with_reducible refine r_iES ?_
  | with_reducible refine r_iES1 ?_
  | with_reducible refine r_iEL ?_)
section
variable {w : World} {P : Program} {base : Heap} {K : PySem.W.Frag} {mg : Str → Option Value}
def sp_cells : Sp := fun vs H Q _ => ∃ (a : Addr) (n : Nat) (bs : List (Int × Int)), vs = [.int n, .ref a] ∧ n ≤ 1000 ∧ LT bV H a bs ∧ VL n 0 bs ∧ bs.length ≤ 1000 ∧
  ∀ (p : Addr) (cs : List Int) (H' : Hp), H p = none → Same H H' → H' p = some (.lst (cs.map V.int)) → CellsOf n bs cs → Q (.ref p) H'
theorem mk_law_cells {f : Addr} {fd : FuncData} (T : Txt mg) (F : Fun K "_law_cells" "_law_cells" s_law_cells f fd) (m : mg "_law_cells" = some (.ref f)) (b : Binds K fd ["size", "blocks"] []) :
    Cal P w K mg base "_law_cells" 1 f fd ["size", "blocks"] sp_cells := by
  refine ⟨F.ok sc_law_cells (fun vs H Q E h => ?_) (fun cdv A outer s H vs Q E hr h => ?_), m, F.kp, b⟩
  · obtain ⟨a, n, bs, rfl, _⟩ := h
    rfl
  obtain ⟨a, n, bs, rfl, hn, hL, hv, hlen, q⟩ := h
  refine ⟨_, (pss_cons (show PS _ _ (tAsg (tLc _ _ _ _ [3]) _) from ps_setLc (i := 2) (own := [("k", 3)]) (g := gName 3) (tt := tYes) rfl sc_law_cells.nd rfl rfl (sw_true rfl rfl rfl (by decide +kernel)) (pi_range1 rfl T.range (pa_cons (pv 0) pa_nil)) (blkOk_by (own := [("k", 3)]) (N := ["size", "blocks", "cells", "k", "at"]) (sc := defScope s_law_cells) (by decide +kernel)) (fun _ _ _ _ _ => (pg_name (i := 3) sc_law_cells.nd rfl (Or.inl rfl))) (fun _ _ _ _ _ => pts_nil) (fun _ _ _ _ _ => pe_int)) (pss_cons (ps_for PassesOwn.never rfl (pi_range1 rfl T.range (pa_cons (pe_callB (show CallR _ _ (fun xs H Q => ∃ p ys, xs = [V.ref p] ∧ (SqL K H p ys ∨ SqT K H p ys) ∧ Q (.int ys.length) H) from call_len_seq) (by rfl) T.len PySem.boot_len (pa_cons (pv 1) pa_nil)) pa_nil)) (pg_name (i := 3) sc_law_cells.nd rfl (Or.inl rfl))
      (pss_one (ps_for PassesOwn.never rfl (pi_range2 rfl T.range (pa_cons (pe_ix (show IxR _ (rIxT K) from ix_tup) (pe_ix (show IxR _ (rIxL K) from ix_list) (pv 1) (pv 3) (fun _ _ => rfl)) pe_int (fun _ _ => rfl)) (pa_cons (pe_op op_add (pe_ix (show IxR _ (rIxT K) from ix_tup) (pe_ix (show IxR _ (rIxL K) from ix_list) (pv 1) (pv 3) (fun _ _ => rfl)) pe_int (fun _ _ => rfl)) (pe_ix (show IxR _ (rIxT K) from ix_tup) (pe_ix (show IxR _ (rIxL K) from ix_list) (pv 1) (pv 3) (fun _ _ => rfl)) pe_int (fun _ _ => rfl))) pa_nil))) (pg_name (i := 4) sc_law_cells.nd rfl (Or.inl rfl))
      (pss_one (ps_asg (pe_op op_add (pv 3) pe_int) (pg_sub (pv 2) (pv 4) set_list)))))) (pss_one (ps_ret (pv 2))))), ?_⟩
  try dsimp only [cxOf, Cx.nox, Cx.wish]
  rw [show start ["size", "blocks", "cells", "k", "at"] [V.int n, V.ref a] = [some (V.int n), some (V.ref a), none, none, none] from rfl]
  walk_at "rd"
  refine And.intro (by omega) ⟨by omega, ?_⟩
  intro D nD
  refine lc_range (lo := 0) (n := n) (fun i H' => H' D = some (.lst ((List.replicate i (0 : Int)).map V.int)) ∧ Same H H') ⟨upd_same, same_upd nD⟩ ?_ ?_
  · rintro i H1 hi ⟨hD, s1⟩
    walk_at "rd"
    refine ⟨_, hD, by rw [List.length_map, List.length_replicate, sizeLine_eq]; omega, ?_, But.upd.new nD s1⟩
    rw [upd_same, List.replicate_succ', List.map_append]
    rfl
  · rintro H1 ⟨hD, s1⟩
    obtain ⟨ts, ha, ht⟩ := hL.same s1
    walk_at "rd"
    rw [ht.len]
    refine And.intro (by omega) ⟨by omega, ?_⟩
    refine for_range (lo := 0) (n := bs.length) (fun k σ H' => ∃ (x3 x4 : Option V) (cs : List Int), σ = [some (.int n), some (.ref a), some (.ref D), x3, x4] ∧ Same H H' ∧ H' D = some (.lst (cs.map V.int)) ∧ cs.length = n ∧ ∀ i, i < n → cs[i]? = some (cellOf i 0 (bs.take k)))
      ⟨_, _, List.replicate n 0, rfl, s1, hD, by simp, fun i hi => by rw [List.getElem?_replicate_of_lt hi]; rfl⟩ ?_ ?_
    · rintro k σ H2 hk ⟨x3, x4, cs, rfl, s2, hD2, hcl, hcs⟩
      rw [Int.zero_add]
      obtain ⟨ts, ha, ht⟩ := hL.same s2
      obtain ⟨x, t, ex, ea, et⟩ := ht.at (i := (k : Int)) (by omega) (by omega)
      rw [Int.toNat_natCast] at ex
      have hx := hv.mem x (List.mem_of_getElem? ex)
      walk_at "rd"
      refine ⟨by omega, ?_⟩
      rw [show x.1 + x.2 - x.1 = x.2 by omega]
      refine for_range (lo := x.1) (n := x.2.toNat) (fun j σ H' => ∃ (x4 : Option V) (cs : List Int), σ = [some (.int n), some (.ref a), some (.ref D), some (.int k), x4] ∧ Same H H' ∧ H' D = some (.lst (cs.map V.int)) ∧ cs.length = n ∧ ∀ i, i < n → cs[i]? = some (if x.1 ≤ i ∧ i < x.1 + j then (k : Int) + 1 else cellOf i 0 (bs.take k)))
        ⟨_, cs, rfl, s2, hD2, hcl, fun i hi => by rw [hcs i hi, if_neg (by omega)]⟩ ?_ ?_
      · rintro j σ H3 hj ⟨x4, cs3, rfl, s3, hD3, hcl3, hcs3⟩
        walk_at "rd"
        refine r_setL hD3 (j := (x.1 + j).toNat) ?_ fun H4 hD4 u4 => ?_
        · unfold ixN
          rw [List.length_map, hcl3, if_pos (by omega), if_pos (by omega)]
        · refine ⟨_, cs3.set (x.1 + j).toNat ((k : Int) + 1), rfl, u4.new nD s3, by rw [hD4, List.map_set], by rw [List.length_set]; exact hcl3, fun i hi => ?_⟩
          rw [List.getElem?_set]
          by_cases e : (x.1 + j).toNat = i
          · rw [if_pos e, if_pos (by omega), if_pos (by omega)]
          · rw [if_neg e, hcs3 i hi]
            by_cases c : x.1 ≤ i ∧ i < x.1 + j
            · rw [if_pos c, if_pos (by omega)]
            · rw [if_neg c, if_neg (by omega)]
      · rintro σ H3 ⟨x4, cs3, rfl, s3, hD3, hcl3, hcs3⟩
        refine ⟨_, _, cs3, rfl, s3, hD3, hcl3, fun i hi => ?_⟩
        rw [hcs3 i hi, cellOf_snoc hv ex, Int.zero_add]
        rw [show ((x.2.toNat : Nat) : Int) = x.2 by omega]
    · rintro σ H2 ⟨x3, x4, cs, rfl, s2, hD2, hcl, hcs⟩
      walk_at "rd"
      refine q D cs H2 nD s2 hD2 ⟨by omega, fun i hi => ?_⟩
      rw [hcs i (by omega), List.take_length]
end
end Pf

namespace Pf
open PySem L2
local macro_rules | `(tactic| walk_at "rd1") => `(tactic| first
  | with_reducible refine r_seqA ?_
  | with_reducible refine r_seqD ?_
  | with_reducible refine r_seqF ?_
  | with_reducible refine r_seqN ?_
  | with_reducible refine r_asg ?_
  | with_reducible refine r_drop ?_
  | with_reducible refine r_ret ?_
  | with_reducible refine r_ifS ?_
  | ((with_reducible refine r_next ?_); try dsimp only)
  | ((with_reducible refine r_name ?_); try dsimp only [List.set_cons_succ, List.set_cons_zero, wipe])
  | ((with_reducible refine' r_var ?rdh ?_); (case rdh => rfl))
  | with_reducible refine r_c ?_
  | with_reducible refine r_op ?_
  | with_reducible refine r_un ?_
  | with_reducible refine r_I0 ?_
  | ((with_reducible refine r_I ?_ ?_); (· first | decide | exact Or.inl (by decide) | exact Or.inr (by decide) | (show _ ∧ _; constructor <;> decide) | (show (0:Int) < _; omega) | (show CDiv _ _; unfold CDiv; omega) ))
  | with_reducible refine r_U ?_
  | with_reducible refine r_eqI ?_
  | with_reducible refine r_neI ?_
  | with_reducible refine r_eqB ?_
  | with_reducible refine r_neB ?_
  | with_reducible refine r_test ?_
  | with_reducible refine r_B ?_
  | with_reducible refine r_bl ?_
  | with_reducible refine r_bl2 ?_
  | with_reducible refine r_yes ?_
  | with_reducible refine r_wipe (by rfl) ?_
  | with_reducible refine r_rfl ?_
  | ((with_reducible refine' r_eqA ?rdh ?_); (case rdh => rfl))
  | with_reducible refine r_and ?_
  | with_reducible refine r_or ?_
  | with_reducible refine r_not ?_
  | with_reducible refine r_andV ?_
  | with_reducible refine r_orV ?_
  | with_reducible refine r_notV ?_
  | with_reducible refine r_ifE ?_
  | with_reducible refine r_nil ?_
  | with_reducible refine r_cons ?_
  | with_reducible refine r_tup ?_
  | with_reducible refine r_lst ?_
  | with_reducible refine r_CB ?_
  | with_reducible refine r_call ?_
  | with_reducible refine r_bm ?_
  | with_reducible refine r_bm0 ?_
  | with_reducible refine r_int ?_
  | with_reducible refine r_i2 ?_
  | with_reducible refine r_i1 ?_
  | with_reducible refine r_gcons ?_
  | with_reducible refine r_gnil ?_
  | with_reducible refine r_gsub ?_
  | with_reducible refine iteT ?_
  | with_reducible refine iteF ?_
  | with_reducible refine ite_notT ?_
  | with_reducible refine ite_notF ?_
  | with_reducible refine r_isi_ib ?_
  | with_reducible refine r_isi_ii ?_
  | with_reducible refine r_isi_bb ?_
  | with_reducible refine r_isi_nb ?_
  | with_reducible refine r_isi_nt ?_
  | ((with_reducible refine' r_isi_ll ?rdh ?_); (case rdh => first | assumption | exact upd_same))
  | ((with_reducible refine' r_isi_tt ?rdh ?_); (case rdh => first | assumption | exact upd_same))
  | with_reducible refine r_sl ?_
  | with_reducible refine r_noPart ?_
  | with_reducible refine r_part ?_
  | with_reducible refine r_int1 ?_
  | with_reducible refine r_tru ?_
  | with_reducible refine r_ckw ?_
  | with_reducible refine r_lc ?_
  | with_reducible refine r_lc2 ?_
  | with_reducible refine r_forS ?_
  | with_reducible refine r_iR1 ?_
  | with_reducible refine r_iR2 ?_
  | with_reducible refine r_iL ?_
  | ((with_reducible refine' r_lenL ?rdh ?_); (case rdh => walk_at "sq"))
  | ((with_reducible refine' r_ixL ?rdh ?rda ?_); (case rdh => walk_at "sq"); (case rda => walk_at "at"))
  | ((with_reducible refine' r_ixT ?rdh ?rda ?_); (case rdh => walk_at "sq"); (case rda => walk_at "at")))
local macro_rules | `(tactic| walk_at "sq") => `(tactic| first
  | assumption
  | exact SqL.of (by assumption)
  | exact SqL.of upd_same
  | exact SqT.of (by assumption)
  | exact SqT.of upd_same)
local macro_rules | `(tactic| walk_at "sml") => `(tactic| (rw [sizeLine_eq]; simp))
local macro_rules | `(tactic| walk_at "at") => `(tactic| first | assumption | rfl)
local macro_rules | `(tactic| walk_at "rd") => `(tactic| repeat walk_at "rd1")
local macro_rules | `(tactic| walk_at "rd1") => `(tactic| first
  | with_reducible refine r_addS ?_
  | with_reducible refine r_lenS ?_
  | with_reducible refine r_eqS ?_
  | with_reducible refine r_neS ?_
  | with_reducible refine r_iES ?_
  | with_reducible refine r_iES1 ?_
  | with_reducible refine r_iEL ?_)
section
variable {w : World} {P : Program} {base : Heap} {K : PySem.W.Frag} {mg : Str → Option Value}
def sp_runs (K : PySem.W.Frag) : Sp := fun vs H Q _ => ∃ (a : Addr) (cs : List Int), vs = [.ref a] ∧ SqL K H a (cs.map V.int) ∧ cs.length ≤ 1000 ∧
  ∀ (p : Addr) (H' : Hp), H p = none → Same H H' → LT bV H' p (runsTo (fun i => cs.getD i 0) cs.length) → Q (.ref p) H'
theorem mk_law_runs {f : Addr} {fd : FuncData} (T : Txt mg) (F : Fun K "_law_runs" "_law_runs" s_law_runs f fd) (m : mg "_law_runs" = some (.ref f)) (b : Binds K fd ["cells"] []) :
    Cal P w K mg base "_law_runs" 1 f fd ["cells"] (sp_runs K) := by
  refine ⟨F.ok sc_law_runs (fun vs H Q E h => ?_) (fun cdv A outer s H vs Q E hr h => ?_), m, F.kp, b⟩
  · obtain ⟨a, cs, rfl, _⟩ := h
    rfl
  obtain ⟨a, cs, rfl, hS, hn, q⟩ := h
  refine ⟨_, (pss_cons (ps_set (i := 1) sc_law_runs.nd rfl (Or.inl rfl) (pe_lst pa_nil)) (pss_cons (ps_for PassesOwn.never rfl (pi_range1 rfl T.range (pa_cons (pe_callB (show CallR _ _ (fun xs H Q => ∃ p ys, xs = [V.ref p] ∧ (SqL K H p ys ∨ SqT K H p ys) ∧ Q (.int ys.length) H) from call_len_seq) (by rfl) T.len PySem.boot_len (pa_cons (pv 0) pa_nil)) pa_nil)) (pg_name (i := 2) sc_law_runs.nd rfl (Or.inl rfl))
      (pss_one (ps_if (pt_cmpR op_eq (pe_ix (show IxR _ (rIxL K) from ix_list) (pv 0) (pv 2) (fun _ _ => rfl)) pe_int (nomark _))
      (pss_one (ps_if (PW.pt (pw_and (pt_cmpR op_gt (pv 2) pe_int (nomark _)) (pw_and1 (pt_cmpR op_eq (pe_ix (show IxR _ (rIxL K) from ix_list) (pv 0) (pe_op op_sub (pv 2) pe_int) (fun _ _ => rfl)) pe_int (nomark _)))))
      (pss_one (ps_asg (pe_tup (pa_cons (pe_ix (show IxR _ (rIxT K) from ix_tup) (pe_ix (show IxR _ (rIxL K) from ix_list) (pv 1) (pe_un un_neg pe_int) (fun _ _ => rfl)) pe_int (fun _ _ => rfl)) (pa_cons (pe_op op_add (pe_ix (show IxR _ (rIxT K) from ix_tup) (pe_ix (show IxR _ (rIxL K) from ix_list) (pv 1) (pe_un un_neg pe_int) (fun _ _ => rfl)) pe_int (fun _ _ => rfl)) pe_int) pa_nil))) (pg_sub (pv 1) (pe_un un_neg pe_int) set_list)))
      (pss_one (ps_expr (pe_bm PySem.F.plainAttrs_list PySem.F.slot_list_append PySem.F.type_list_append mt_append (pv 1) (pa_cons (pe_tup (pa_cons (pv 2) (pa_cons pe_int pa_nil))) pa_nil))))))
      pss_nil))) (pss_one (ps_ret (pv 1))))), ?_⟩
  try dsimp only [cxOf, Cx.nox, Cx.wish]
  rw [show start ["cells", "runs", "at"] [V.ref a] = [some (V.ref a), none, none] from rfl]
  walk_at "rd"
  refine ⟨by walk_at "sml", fun D nD => ?_⟩
  refine upd_new nD fun H1 hD s1 => ?_
  walk_at "rd"
  refine r_lenL (s1.seq hS) ?_
  walk_at "rd"
  rw [List.length_map]
  refine And.intro (by omega) ⟨by omega, ?_⟩
  refine for_range (lo := 0) (n := cs.length) (fun k σ H' => ∃ (x2 : Option V) (ts : List Addr), σ = [some (.ref a), some (.ref D), x2] ∧ Same H H' ∧ H' D = some (.lst (ts.map V.ref)) ∧ TL bV H' ts (runsTo (fun i => cs.getD i 0) k))
    ⟨_, [], rfl, s1, hD, .nil⟩ ?_ ?_
  · rintro k σ H2 hk ⟨x2, ts, rfl, s2, hD2, ht⟩
    rw [Int.zero_add]
    have at_k := at_int (ns := cs) (i := (k : Int)) (by omega) (by omega)
    rw [Int.toNat_natCast] at at_k
    have hS2 := s2.seq hS
    have hlt : ts.length ≤ k := by rw [ht.1]; exact runsTo_len k
    walk_at "rd"
    refine r_ite (fun c0 => ?_) (fun c0 => ?_)
    · walk_at "rd"
      refine r_ite (fun c1 => ?_) (fun c1 => ?_)
      · have hk1 : 0 < k := by omega
        have at_k1 := at_int (ns := cs) (i := (k : Int) - 1) (by omega) (by omega)
        rw [show ((k : Int) - 1).toNat = k - 1 by omega] at at_k1
        walk_at "rd"
        refine r_ite (fun c2 => ?_) (fun c2 => ?_)
        · obtain ⟨G, g, eg⟩ : ∃ G g, runsTo (fun i => cs.getD i 0) k = G ++ [g] := by
            have hne := runsTo_ne (c := fun i => cs.getD i 0) hk1 c2
            exact snoc_of hne
          rw [eg] at ht
          obtain ⟨ts0, tl, rfl, ht0, htl⟩ := ht.unsnoc
          have at_l : atI ((ts0 ++ [tl]).map V.ref) (-1) = some (.ref tl) := by rw [List.map_append]; exact atI_last _ _
          walk_at "rd"
          refine ⟨by walk_at "sml", fun t nt => ?_⟩
          refine upd_new nt fun H3 ht3 s3 => ?_
          walk_at "rd"
          refine r_setL (s3 _ _ hD2) (j := ts0.length) ?_ fun H4 hD4 u4 => ?_
          · rw [List.length_map, List.length_append]
            exact ixN_last _
          · rw [set_last] at hD4
            refine ⟨_, ts0 ++ [t], rfl, u4.new nD (s2.trans s3), hD4, ?_⟩
            rw [runsTo, if_pos c0, if_pos ⟨hk1, c2⟩, eg, List.dropLast_concat, List.getLastD_concat]
            exact ((ht0.same s3).but u4 (s3 _ _ hD2)).snoc (u4 _ _ (ne_of ht3 (s3 _ _ hD2) (by intro z; cases z)) ht3)
        · walk_at "rd"
          refine ⟨ty_lst hD2, ?_⟩
          walk_at "rd"
          refine ⟨by walk_at "sml", fun t nt => ?_⟩
          refine upd_new nt fun H3 ht3 s3 => ?_
          walk_at "rd"
          refine r_app (s3 _ _ hD2) (by rw [List.length_map, sizeLine_eq]; omega) fun H4 hD4 u4 => ?_
          walk_at "rd"
          refine ⟨_, ts ++ [t], rfl, u4.new nD (s2.trans s3), by rw [hD4, List.map_append]; rfl, ?_⟩
          rw [runsTo, if_pos c0, if_neg (fun z => c2 z.2)]
          exact ((ht.same s3).but u4 (s3 _ _ hD2)).snoc (u4 _ _ (ne_of ht3 (s3 _ _ hD2) (by intro z; cases z)) ht3)
      · walk_at "rd"
        refine ⟨ty_lst hD2, ?_⟩
        walk_at "rd"
        refine ⟨by walk_at "sml", fun t nt => ?_⟩
        refine upd_new nt fun H3 ht3 s3 => ?_
        walk_at "rd"
        refine r_app (s3 _ _ hD2) (by rw [List.length_map, sizeLine_eq]; omega) fun H4 hD4 u4 => ?_
        walk_at "rd"
        refine ⟨_, ts ++ [t], rfl, u4.new nD (s2.trans s3), by rw [hD4, List.map_append]; rfl, ?_⟩
        rw [runsTo, if_pos c0, if_neg (fun z => c1 (by omega))]
        exact ((ht.same s3).but u4 (s3 _ _ hD2)).snoc (u4 _ _ (ne_of ht3 (s3 _ _ hD2) (by intro z; cases z)) ht3)
    · walk_at "rd"
      refine ⟨_, ts, rfl, s2, hD2, ?_⟩
      rw [runsTo, if_neg c0]
      exact ht
  · rintro σ H2 ⟨x2, ts, rfl, s2, hD2, ht⟩
    walk_at "rd"
    exact q D H2 nD s2 ⟨ts, hD2, ht⟩
end
end Pf

namespace Pf
open PySem L2
local macro_rules | `(tactic| walk_at "rd1") => `(tactic| first
  | with_reducible refine r_seqA ?_
  | with_reducible refine r_seqD ?_
  | with_reducible refine r_seqF ?_
  | with_reducible refine r_seqN ?_
  | with_reducible refine r_asg ?_
  | with_reducible refine r_drop ?_
  | with_reducible refine r_ret ?_
  | with_reducible refine r_ifS ?_
  | ((with_reducible refine r_next ?_); try dsimp only)
  | ((with_reducible refine r_name ?_); try dsimp only [List.set_cons_succ, List.set_cons_zero, wipe])
  | ((with_reducible refine' r_var ?rdh ?_); (case rdh => rfl))
  | with_reducible refine r_c ?_
  | with_reducible refine r_op ?_
  | with_reducible refine r_un ?_
  | with_reducible refine r_I0 ?_
  | ((with_reducible refine r_I ?_ ?_); (· first | decide | exact Or.inl (by decide) | exact Or.inr (by decide) | (show _ ∧ _; constructor <;> decide) | (show (0:Int) < _; omega) | (show CDiv _ _; unfold CDiv; omega) ))
  | with_reducible refine r_U ?_
  | with_reducible refine r_eqI ?_
  | with_reducible refine r_neI ?_
  | with_reducible refine r_eqB ?_
  | with_reducible refine r_neB ?_
  | with_reducible refine r_test ?_
  | with_reducible refine r_B ?_
  | with_reducible refine r_bl ?_
  | with_reducible refine r_bl2 ?_
  | with_reducible refine r_yes ?_
  | with_reducible refine r_wipe (by rfl) ?_
  | with_reducible refine r_rfl ?_
  | ((with_reducible refine' r_eqA ?rdh ?_); (case rdh => rfl))
  | with_reducible refine r_and ?_
  | with_reducible refine r_or ?_
  | with_reducible refine r_not ?_
  | with_reducible refine r_andV ?_
  | with_reducible refine r_orV ?_
  | with_reducible refine r_notV ?_
  | with_reducible refine r_ifE ?_
  | with_reducible refine r_nil ?_
  | with_reducible refine r_cons ?_
  | with_reducible refine r_tup ?_
  | with_reducible refine r_lst ?_
  | with_reducible refine r_CB ?_
  | with_reducible refine r_call ?_
  | with_reducible refine r_bm ?_
  | with_reducible refine r_bm0 ?_
  | with_reducible refine r_int ?_
  | with_reducible refine r_i2 ?_
  | with_reducible refine r_i1 ?_
  | with_reducible refine r_gcons ?_
  | with_reducible refine r_gnil ?_
  | with_reducible refine r_gsub ?_
  | with_reducible refine iteT ?_
  | with_reducible refine iteF ?_
  | with_reducible refine ite_notT ?_
  | with_reducible refine ite_notF ?_
  | with_reducible refine r_isi_ib ?_
  | with_reducible refine r_isi_ii ?_
  | with_reducible refine r_isi_bb ?_
  | with_reducible refine r_isi_nb ?_
  | with_reducible refine r_isi_nt ?_
  | ((with_reducible refine' r_isi_ll ?rdh ?_); (case rdh => first | assumption | exact upd_same))
  | ((with_reducible refine' r_isi_tt ?rdh ?_); (case rdh => first | assumption | exact upd_same))
  | with_reducible refine r_sl ?_
  | with_reducible refine r_noPart ?_
  | with_reducible refine r_part ?_
  | with_reducible refine r_int1 ?_
  | with_reducible refine r_tru ?_
  | with_reducible refine r_ckw ?_
  | with_reducible refine r_lc ?_
  | with_reducible refine r_lc2 ?_
  | with_reducible refine r_forS ?_
  | with_reducible refine r_iR1 ?_
  | with_reducible refine r_iR2 ?_
  | with_reducible refine r_iL ?_
  | ((with_reducible refine' r_lenL ?rdh ?_); (case rdh => walk_at "sq"))
  | ((with_reducible refine' r_ixL ?rdh ?rda ?_); (case rdh => walk_at "sq"); (case rda => walk_at "at"))
  | ((with_reducible refine' r_ixT ?rdh ?rda ?_); (case rdh => walk_at "sq"); (case rda => walk_at "at")))
local macro_rules | `(tactic| walk_at "sq") => `(tactic| first
  | assumption
  | exact SqL.of (by assumption)
  | exact SqL.of upd_same
  | exact SqT.of (by assumption)
  | exact SqT.of upd_same)
local macro_rules | `(tactic| walk_at "sml") => `(tactic| (rw [sizeLine_eq]; simp))
local macro_rules | `(tactic| walk_at "at") => `(tactic| first | assumption | rfl)
local macro_rules | `(tactic| walk_at "rd") => `(tactic| repeat walk_at "rd1")
local macro_rules | `(tactic| walk_at "rd1") => `(tactic| first
  | with_reducible refine r_addS ?_
  | with_reducible refine r_lenS ?_
  | with_reducible refine r_eqS ?_
  | with_reducible refine r_neS ?_
  | with_reducible refine r_iES ?_
  | with_reducible refine r_iES1 ?_
  | with_reducible refine r_iEL ?_)
section
variable {w : World} {P : Program} {base : Heap} {K : PySem.W.Frag} {mg : Str → Option Value}

end
end Pf

namespace Pf
open PySem L2
local macro_rules | `(tactic| walk_at "rd1") => `(tactic| first
  | with_reducible refine r_seqA ?_
  | with_reducible refine r_seqD ?_
  | with_reducible refine r_seqF ?_
  | with_reducible refine r_seqN ?_
  | with_reducible refine r_asg ?_
  | with_reducible refine r_drop ?_
  | with_reducible refine r_ret ?_
  | with_reducible refine r_ifS ?_
  | ((with_reducible refine r_next ?_); try dsimp only)
  | ((with_reducible refine r_name ?_); try dsimp only [List.set_cons_succ, List.set_cons_zero, wipe])
  | ((with_reducible refine' r_var ?rdh ?_); (case rdh => rfl))
  | with_reducible refine r_c ?_
  | with_reducible refine r_op ?_
  | with_reducible refine r_un ?_
  | with_reducible refine r_I0 ?_
  | ((with_reducible refine r_I ?_ ?_); (· first | decide | exact Or.inl (by decide) | exact Or.inr (by decide) | (show _ ∧ _; constructor <;> decide) | (show (0:Int) < _; omega) | (show CDiv _ _; unfold CDiv; omega) ))
  | with_reducible refine r_U ?_
  | with_reducible refine r_eqI ?_
  | with_reducible refine r_neI ?_
  | with_reducible refine r_eqB ?_
  | with_reducible refine r_neB ?_
  | with_reducible refine r_test ?_
  | with_reducible refine r_B ?_
  | with_reducible refine r_bl ?_
  | with_reducible refine r_bl2 ?_
  | with_reducible refine r_yes ?_
  | with_reducible refine r_wipe (by rfl) ?_
  | with_reducible refine r_rfl ?_
  | ((with_reducible refine' r_eqA ?rdh ?_); (case rdh => rfl))
  | with_reducible refine r_and ?_
  | with_reducible refine r_or ?_
  | with_reducible refine r_not ?_
  | with_reducible refine r_andV ?_
  | with_reducible refine r_orV ?_
  | with_reducible refine r_notV ?_
  | with_reducible refine r_ifE ?_
  | with_reducible refine r_nil ?_
  | with_reducible refine r_cons ?_
  | with_reducible refine r_tup ?_
  | with_reducible refine r_lst ?_
  | with_reducible refine r_CB ?_
  | with_reducible refine r_call ?_
  | with_reducible refine r_bm ?_
  | with_reducible refine r_bm0 ?_
  | with_reducible refine r_int ?_
  | with_reducible refine r_i2 ?_
  | with_reducible refine r_i1 ?_
  | with_reducible refine r_gcons ?_
  | with_reducible refine r_gnil ?_
  | with_reducible refine r_gsub ?_
  | with_reducible refine iteT ?_
  | with_reducible refine iteF ?_
  | with_reducible refine ite_notT ?_
  | with_reducible refine ite_notF ?_
  | with_reducible refine r_isi_ib ?_
  | with_reducible refine r_isi_ii ?_
  | with_reducible refine r_isi_bb ?_
  | with_reducible refine r_isi_nb ?_
  | with_reducible refine r_isi_nt ?_
  | ((with_reducible refine' r_isi_ll ?rdh ?_); (case rdh => first | assumption | exact upd_same))
  | ((with_reducible refine' r_isi_tt ?rdh ?_); (case rdh => first | assumption | exact upd_same))
  | with_reducible refine r_sl ?_
  | with_reducible refine r_noPart ?_
  | with_reducible refine r_part ?_
  | with_reducible refine r_int1 ?_
  | with_reducible refine r_tru ?_
  | with_reducible refine r_ckw ?_
  | with_reducible refine r_lc ?_
  | with_reducible refine r_lc2 ?_
  | with_reducible refine r_forS ?_
  | with_reducible refine r_iR1 ?_
  | with_reducible refine r_iR2 ?_
  | with_reducible refine r_iL ?_
  | ((with_reducible refine' r_lenL ?rdh ?_); (case rdh => walk_at "sq"))
  | ((with_reducible refine' r_ixL ?rdh ?rda ?_); (case rdh => walk_at "sq"); (case rda => walk_at "at"))
  | ((with_reducible refine' r_ixT ?rdh ?rda ?_); (case rdh => walk_at "sq"); (case rda => walk_at "at")))
local macro_rules | `(tactic| walk_at "sq") => `(tactic| first
  | assumption
  | exact SqL.of (by assumption)
  | exact SqL.of upd_same
  | exact SqT.of (by assumption)
  | exact SqT.of upd_same)
local macro_rules | `(tactic| walk_at "sml") => `(tactic| (rw [sizeLine_eq]; simp))
local macro_rules | `(tactic| walk_at "at") => `(tactic| first | assumption | rfl)
local macro_rules | `(tactic| walk_at "rd") => `(tactic| repeat walk_at "rd1")
local macro_rules | `(tactic| walk_at "rd1") => `(tactic| first
  | with_reducible refine r_addS ?_
  | with_reducible refine r_lenS ?_
  | with_reducible refine r_eqS ?_
  | with_reducible refine r_neS ?_
  | with_reducible refine r_iES ?_
  | with_reducible refine r_iES1 ?_
  | with_reducible refine r_iEL ?_)
section
variable {w : World} {P : Program} {base : Heap} {K : PySem.W.Frag} {mg : Str → Option Value}
def gf : Int → List (Int × Int) → List (Int × Int)
  | _, [] => []
  | e, (s, l) :: r => (if s > e then [(e, s - e)] else []) ++ gf (s + l) r
theorem gf_gaps (size : Int) : ∀ (bs : List (Int × Int)) (e : Int), gf e (bs ++ [(size, 0)]) = gapsF size e bs
  | [], e => by
    show (if size > e then [(e, size - e)] else []) ++ [] = gapsF size e []
    rw [List.append_nil, gapsF]
  | (s, l) :: r, e => by
    show (if s > e then [(e, s - e)] else []) ++ gf (s + l) (r ++ [(size, 0)]) = _
    rw [gf_gaps size r, gapsF]
    by_cases c : s > e
    · rw [if_pos c, if_pos c]; rfl
    · rw [if_neg c, if_neg c]; rfl
theorem gapsF_len (size : Int) : ∀ (bs : List (Int × Int)) (e : Int), (gapsF size e bs).length ≤ bs.length + 1
  | [], e => by rw [gapsF]; split <;> simp
  | (s, l) :: r, e => by
    have ih := gapsF_len size r (s + l)
    rw [gapsF]
    split <;> simp <;> omega
def liveF (bs : List (Int × Int)) : Int := (bs.map (·.2)).sum
def gapSum (gs : List (Int × Int)) : Int := (gs.map (·.2)).sum
def grtF (gs : List (Int × Int)) : Int := match gs.map (·.2) with | [] => 0 | n :: r => r.foldl max n
theorem gap_pos (size : Int) : ∀ (bs : List (Int × Int)) (e : Int), ∀ g ∈ gapsF size e bs, 1 ≤ g.2
  | [], e, g, h => by
    rw [gapsF] at h
    split at h
    · rw [List.mem_singleton.mp h]; simp only; omega
    · simp at h
  | (s, l) :: r, e, g, h => by
    rw [gapsF] at h
    split at h
    · obtain rfl | h := List.mem_cons.mp h
      · simp only; omega
      · exact gap_pos size r (s + l) g h
    · exact gap_pos size r (s + l) g h
theorem gap_sum {size : Int} : ∀ {bs : List (Int × Int)} {e : Int}, VL size e bs → liveF bs + gapSum (gapsF size e bs) = size - e
  | [], e, h => by
    have h' : e ≤ size := h
    rw [gapsF]
    unfold liveF gapSum
    split <;> simp <;> omega
  | (s, l) :: r, e, h => by
    have ih := gap_sum h.2.2
    have h1 := h.1
    rw [gapsF]
    unfold liveF gapSum at *
    split <;> simp only [List.map_cons, List.sum_cons] <;> omega
theorem max_mem : ∀ (r : List Int) (n : Int), (r.foldl max n = n ∨ r.foldl max n ∈ r) ∧ n ≤ r.foldl max n ∧ ∀ x ∈ r, x ≤ r.foldl max n
  | [], n => ⟨.inl rfl, Int.le_refl _, fun x h => by simp at h⟩
  | y :: r, n => by
    obtain ⟨h1, h2, h3⟩ := max_mem r (max n y)
    rw [List.foldl_cons]
    refine And.intro ?_ ⟨by omega, fun x hx => ?_⟩
    · rcases h1 with h1 | h1
      · rw [h1]
        by_cases c : n ≤ y
        · right; rw [Int.max_eq_right c]; exact List.mem_cons_self
        · left; omega
      · exact .inr (List.mem_cons_of_mem _ h1)
    · obtain rfl | hx := List.mem_cons.mp hx
      · omega
      · exact h3 x hx
theorem grt_ge {gs : List (Int × Int)} {g : Int × Int} (h : g ∈ gs) : g.2 ≤ grtF gs := by
  unfold grtF
  have hm : g.2 ∈ gs.map (·.2) := List.mem_map_of_mem h
  generalize gs.map (·.2) = ns at hm
  cases ns with
  | nil => simp at hm
  | cons n r =>
    obtain ⟨h1, h2, h3⟩ := max_mem r n
    obtain e | hm := List.mem_cons.mp hm
    · rw [e]; exact h2
    · exact h3 _ hm
theorem sum_nonneg : ∀ {ns : List Int}, (∀ x ∈ ns, 0 ≤ x) → 0 ≤ ns.sum
  | [], _ => Int.le_refl _
  | n :: r, h => by
    have := sum_nonneg (ns := r) fun x hx => h x (List.mem_cons_of_mem _ hx)
    have := h n List.mem_cons_self
    rw [List.sum_cons]
    omega
theorem mem_le_sum : ∀ {ns : List Int} {x : Int}, (∀ x ∈ ns, 0 ≤ x) → x ∈ ns → x ≤ ns.sum
  | n :: r, x, h, hx => by
    have h1 := sum_nonneg (ns := r) fun x hx => h x (List.mem_cons_of_mem _ hx)
    have h2 := h n List.mem_cons_self
    rw [List.sum_cons]
    obtain rfl | hx := List.mem_cons.mp hx
    · omega
    · have := mem_le_sum (fun x hx => h x (List.mem_cons_of_mem _ hx)) hx
      omega
theorem grt_le {gs : List (Int × Int)} (h : ∀ g ∈ gs, 1 ≤ g.2) : 0 ≤ grtF gs ∧ grtF gs ≤ gapSum gs := by
  unfold grtF gapSum
  have hm : ∀ x ∈ gs.map (·.2), 0 ≤ x := fun x hx => by
    obtain ⟨g, hg, rfl⟩ := List.mem_map.mp hx
    have := h g hg
    omega
  generalize gs.map (·.2) = ns at hm
  cases ns with
  | nil => simp
  | cons n r =>
    obtain ⟨h1, h2, h3⟩ := max_mem r n
    have := hm n List.mem_cons_self
    refine ⟨by show 0 ≤ r.foldl max n; omega, ?_⟩
    show r.foldl max n ≤ _
    rcases h1 with e | e
    · exact mem_le_sum hm (by rw [e]; exact List.mem_cons_self)
    · exact mem_le_sum hm (List.mem_cons_of_mem _ e)
theorem live_nonneg {size e : Int} {bs : List (Int × Int)} (h : VL size e bs) : 0 ≤ liveF bs :=
  sum_nonneg fun x hx => by
    obtain ⟨g, hg, rfl⟩ := List.mem_map.mp hx
    have := h.mem g hg
    omega
theorem gap_in {size : Int} : ∀ {bs : List (Int × Int)} {e : Int}, VL size e bs → ∀ g ∈ gapsF size e bs, e ≤ g.1 ∧ g.1 + g.2 ≤ size
  | [], e, h, g, hg => by
    rw [gapsF] at hg
    split at hg
    · rw [List.mem_singleton.mp hg]
      simp only
      omega
    · simp at hg
  | (s, l) :: r, e, h, g, hg => by
    have h1 := h.1
    have h2 := h.2.1
    have h3 := h.2.2.le_size
    rw [gapsF] at hg
    split at hg
    · obtain rfl | hg := List.mem_cons.mp hg
      · simp only
        omega
      · have := gap_in h.2.2 g hg
        omega
    · have := gap_in h.2.2 g hg
      omega
def sp_gaps : Sp := fun vs H Q _ => ∃ (a : Addr) (size : Int) (bs : List (Int × Int)), vs = [.int size, .ref a] ∧ LT bV H a bs ∧ bs.length ≤ 1000 ∧
  ∀ (p : Addr) (H' : Hp), H p = none → Same H H' → LT bV H' p (gapsF size 0 bs) → Q (.ref p) H'
theorem mk_gaps {f : Addr} {fd : FuncData} (T : Txt mg) (F : Fun K "gaps" "gaps" s_gaps f fd) (m : mg "gaps" = some (.ref f)) (b : Binds K fd ["size", "layout"] []) :
    Cal P w K mg base "gaps" 1 f fd ["size", "layout"] sp_gaps := by
  refine ⟨F.ok sc_gaps (fun vs H Q E h => ?_) (fun cdv A outer s H vs Q E hr h => ?_), m, F.kp, b⟩
  · obtain ⟨a, size, bs, rfl, _⟩ := h
    rfl
  obtain ⟨a, size, bs, rfl, ⟨ts, ha, ht⟩, hlen, q⟩ := h
  have hl := ht.1
  refine ⟨_, (pss_cons (ps_set (i := 2) sc_gaps.nd rfl (Or.inl rfl) (pe_lst pa_nil)) (pss_cons (ps_set (i := 3) sc_gaps.nd rfl (Or.inl rfl) pe_int) (pss_cons (ps_for PassesOwn.never rfl (pi_list (pe_op op_cat (pv 1) (pe_lst (pa_cons (pe_tup (pa_cons (pv 0) (pa_cons pe_int pa_nil))) pa_nil)))) (pg_tup rfl (pgs_cons (pg_name (i := 4) sc_gaps.nd rfl (Or.inl rfl)) (pgs_cons (pg_name (i := 5) sc_gaps.nd rfl (Or.inl rfl)) pgs_nil)))
      (pss_cons (ps_if (pt_cmpR op_gt (pv 4) (pv 3) (nomark _))
      (pss_one (ps_expr (pe_bm PySem.F.plainAttrs_list PySem.F.slot_list_append PySem.F.type_list_append mt_append (pv 2) (pa_cons (pe_tup (pa_cons (pv 3) (pa_cons (pe_op op_sub (pv 4) (pv 3)) pa_nil))) pa_nil))))
      pss_nil) (pss_one (ps_set (i := 3) sc_gaps.nd rfl (Or.inl rfl) (pe_op op_add (pv 4) (pv 5)))))) (pss_one (ps_ret (pv 2)))))), ?_⟩
  try dsimp only [cxOf, Cx.nox, Cx.wish]
  rw [show start ["size", "layout", "found", "end", "start", "length"] [V.int size, V.ref a] = [some (V.int size), some (V.ref a), none, none, none, none] from rfl]
  walk_at "rd"
  refine ⟨by walk_at "sml", fun D nD => ?_⟩
  refine upd_new nD fun H1 hD s1 => ?_
  walk_at "rd"
  refine ⟨by walk_at "sml", fun t0 nt0 => ?_⟩
  refine upd_new nt0 fun H2 ht0 s2 => ?_
  walk_at "rd"
  refine ⟨by walk_at "sml", fun y ny => ?_⟩
  refine upd_new ny fun H3 hy s3 => ?_
  refine r_cat (s3 _ _ (s2 _ _ (s1 _ _ ha))) hy (by rw [List.length_map, sizeLine_eq]; simp; omega) fun c nc => ?_
  refine upd_new nc fun H4 hc s4 => ?_
  have s14 := (s2.trans s3).trans s4
  have hD4 := s14 _ _ hD
  have ht4 : TL bV H4 (ts ++ [t0]) (bs ++ [(size, 0)]) := (((ht.same s1).same s14).snoc (x := (size, 0)) (s4 _ _ (s3 _ _ ht0)))
  have hc4 : H4 c = some (.lst ((ts ++ [t0]).map V.ref)) := by rw [hc, List.map_append]; rfl
  have ncD : D ≠ c := ne_of_none ((s2.trans s3) _ _ hD) nc
  refine r_iL2 (SqL.of hc4) ?_
  refine for_list (K := K) (a := c) (xs := (ts ++ [t0]).map V.ref) (fun i σ H' => ∃ (x4 x5 : Option V) (e : Int) (us : List Addr) (G : List (Int × Int)), σ = [some (.int size), some (.ref a), some (.ref D), some (.int e), x4, x5] ∧ Same H H' ∧ H' c = some (.lst ((ts ++ [t0]).map V.ref)) ∧ TL bV H' (ts ++ [t0]) (bs ++ [(size, 0)]) ∧ H' D = some (.lst (us.map V.ref)) ∧ TL bV H' us G ∧ us.length ≤ i ∧ gapsF size 0 bs = G ++ gf e ((bs ++ [(size, 0)]).drop i))
    ⟨_, _, 0, [], [], rfl, s1.trans s14, hc4, ht4, hD4, .nil, Nat.le_refl _, by rw [List.drop_zero, gf_gaps]; rfl⟩ (fun i σ H' _ ⟨_, _, _, _, _, _, _, e, _⟩ => SqL.of e) ?_ ?_
  · rintro i x σ H5 hx ⟨x4, x5, e, us, G, rfl, s5, hc5, ht5, hD5, hu5, hul, hg⟩
    rw [List.getElem?_map] at hx
    obtain ⟨t, et, rfl⟩ := Option.map_eq_some_iff.mp hx
    obtain ⟨⟨s', l'⟩, eb, htup⟩ := ht5.2 i t et
    have hi : i < ts.length + 1 := by
      have := (List.getElem?_eq_some_iff.mp et).1
      rw [List.length_append] at this
      exact this
    rw [drop_get eb, gf] at hg
    refine r_gtup (SqT.of htup) rfl ?_
    walk_at "rd"
    refine r_seq ?_
    walk_at "rd"
    refine r_ite (fun c1 => ?_) (fun c1 => ?_)
    · walk_at "rd"
      refine ⟨ty_lst hD5, ?_⟩
      walk_at "rd"
      refine ⟨by walk_at "sml", fun g ng => ?_⟩
      refine upd_new ng fun H6 hgt s6 => ?_
      walk_at "rd"
      refine r_app (s6 _ _ hD5) (by rw [List.length_map, sizeLine_eq]; omega) fun H7 hD7 u7 => ?_
      walk_at "rd"
      rw [if_pos c1] at hg
      refine ⟨_, _, _, us ++ [g], G ++ [(e, s' - e)], rfl, u7.new nD (s5.trans s6), u7 _ _ ncD.symm (s6 _ _ hc5), (ht5.same s6).but u7 (s6 _ _ hD5), by rw [hD7, List.map_append]; rfl, ((hu5.same s6).but u7 (s6 _ _ hD5)).snoc (u7 _ _ (ne_of hgt (s6 _ _ hD5) (by intro z; cases z)) hgt), by rw [List.length_append]; simp; omega, ?_⟩
      rw [hg, List.append_assoc]
    · walk_at "rd"
      rw [if_neg c1] at hg
      exact ⟨_, _, _, us, G, rfl, s5, hc5, ht5, hD5, hu5, by omega, hg⟩
  · rintro σ H5 ⟨x4, x5, e, us, G, rfl, s5, hc5, ht5, hD5, hu5, hul, hg⟩
    rw [List.length_map, ht4.1, List.drop_length, gf, List.append_nil] at hg
    walk_at "rd"
    exact q D H5 nD s5 ⟨us, hD5, hg ▸ hu5⟩
end
end Pf

namespace Pf
open PySem L2
local macro_rules | `(tactic| walk_at "rd1") => `(tactic| first
  | with_reducible refine r_seqA ?_
  | with_reducible refine r_seqD ?_
  | with_reducible refine r_seqF ?_
  | with_reducible refine r_seqN ?_
  | with_reducible refine r_asg ?_
  | with_reducible refine r_drop ?_
  | with_reducible refine r_ret ?_
  | with_reducible refine r_ifS ?_
  | ((with_reducible refine r_next ?_); try dsimp only)
  | ((with_reducible refine r_name ?_); try dsimp only [List.set_cons_succ, List.set_cons_zero, wipe])
  | ((with_reducible refine' r_var ?rdh ?_); (case rdh => rfl))
  | with_reducible refine r_c ?_
  | with_reducible refine r_op ?_
  | with_reducible refine r_un ?_
  | with_reducible refine r_I0 ?_
  | ((with_reducible refine r_I ?_ ?_); (· first | decide | exact Or.inl (by decide) | exact Or.inr (by decide) | (show _ ∧ _; constructor <;> decide) | (show (0:Int) < _; omega) | (show CDiv _ _; unfold CDiv; omega) ))
  | with_reducible refine r_U ?_
  | with_reducible refine r_eqI ?_
  | with_reducible refine r_neI ?_
  | with_reducible refine r_eqB ?_
  | with_reducible refine r_neB ?_
  | with_reducible refine r_test ?_
  | with_reducible refine r_B ?_
  | with_reducible refine r_bl ?_
  | with_reducible refine r_bl2 ?_
  | with_reducible refine r_yes ?_
  | with_reducible refine r_wipe (by rfl) ?_
  | with_reducible refine r_rfl ?_
  | ((with_reducible refine' r_eqA ?rdh ?_); (case rdh => rfl))
  | with_reducible refine r_and ?_
  | with_reducible refine r_or ?_
  | with_reducible refine r_not ?_
  | with_reducible refine r_andV ?_
  | with_reducible refine r_orV ?_
  | with_reducible refine r_notV ?_
  | with_reducible refine r_ifE ?_
  | with_reducible refine r_nil ?_
  | with_reducible refine r_cons ?_
  | with_reducible refine r_tup ?_
  | with_reducible refine r_lst ?_
  | with_reducible refine r_CB ?_
  | with_reducible refine r_call ?_
  | with_reducible refine r_bm ?_
  | with_reducible refine r_bm0 ?_
  | with_reducible refine r_int ?_
  | with_reducible refine r_i2 ?_
  | with_reducible refine r_i1 ?_
  | with_reducible refine r_gcons ?_
  | with_reducible refine r_gnil ?_
  | with_reducible refine r_gsub ?_
  | with_reducible refine iteT ?_
  | with_reducible refine iteF ?_
  | with_reducible refine ite_notT ?_
  | with_reducible refine ite_notF ?_
  | with_reducible refine r_isi_ib ?_
  | with_reducible refine r_isi_ii ?_
  | with_reducible refine r_isi_bb ?_
  | with_reducible refine r_isi_nb ?_
  | with_reducible refine r_isi_nt ?_
  | ((with_reducible refine' r_isi_ll ?rdh ?_); (case rdh => first | assumption | exact upd_same))
  | ((with_reducible refine' r_isi_tt ?rdh ?_); (case rdh => first | assumption | exact upd_same))
  | with_reducible refine r_sl ?_
  | with_reducible refine r_noPart ?_
  | with_reducible refine r_part ?_
  | with_reducible refine r_int1 ?_
  | with_reducible refine r_tru ?_
  | with_reducible refine r_ckw ?_
  | with_reducible refine r_lc ?_
  | with_reducible refine r_lc2 ?_
  | with_reducible refine r_forS ?_
  | with_reducible refine r_iR1 ?_
  | with_reducible refine r_iR2 ?_
  | with_reducible refine r_iL ?_
  | ((with_reducible refine' r_lenL ?rdh ?_); (case rdh => walk_at "sq"))
  | ((with_reducible refine' r_ixL ?rdh ?rda ?_); (case rdh => walk_at "sq"); (case rda => walk_at "at"))
  | ((with_reducible refine' r_ixT ?rdh ?rda ?_); (case rdh => walk_at "sq"); (case rda => walk_at "at")))
local macro_rules | `(tactic| walk_at "sq") => `(tactic| first
  | assumption
  | exact SqL.of (by assumption)
  | exact SqL.of upd_same
  | exact SqT.of (by assumption)
  | exact SqT.of upd_same)
local macro_rules | `(tactic| walk_at "sml") => `(tactic| (rw [sizeLine_eq]; simp))
local macro_rules | `(tactic| walk_at "at") => `(tactic| first | assumption | rfl)
local macro_rules | `(tactic| walk_at "rd") => `(tactic| repeat walk_at "rd1")
local macro_rules | `(tactic| walk_at "rd1") => `(tactic| first
  | with_reducible refine r_addS ?_
  | with_reducible refine r_lenS ?_
  | with_reducible refine r_eqS ?_
  | with_reducible refine r_neS ?_
  | with_reducible refine r_iES ?_
  | with_reducible refine r_iES1 ?_
  | with_reducible refine r_iEL ?_)
section
variable {w : World} {P : Program} {base : Heap} {K : PySem.W.Frag} {mg : Str → Option Value}
def placesF (gs : List (Int × Int)) (ln : Int) : List Int := gs.flatMap fun g => (List.range (g.2 - ln + 1).toNat).map fun i : Nat => g.1 + (i : Int)
theorem placesF_snoc (gs : List (Int × Int)) (ln : Int) (g : Int × Int) : placesF (gs ++ [g]) ln = placesF gs ln ++ (List.range (g.2 - ln + 1).toNat).map fun i : Nat => g.1 + (i : Int) := by
  unfold placesF
  rw [List.flatMap_append, List.flatMap_singleton]
theorem placesF_len {ln : Int} (hl : 1 ≤ ln) : ∀ gs : List (Int × Int), (∀ g ∈ gs, 1 ≤ g.2) → ((placesF gs ln).length : Int) ≤ (gs.map (·.2)).sum
  | [], _ => by simp [placesF]
  | g :: gs, h => by
    have ih := placesF_len hl gs fun x hx => h x (List.mem_cons_of_mem _ hx)
    have h1 := h g List.mem_cons_self
    have e : placesF (g :: gs) ln = ((List.range (g.2 - ln + 1).toNat).map fun i : Nat => g.1 + (i : Int)) ++ placesF gs ln := by
      unfold placesF
      rw [List.flatMap_cons]
    rw [e, List.length_append, List.length_map, List.length_range, List.map_cons, List.sum_cons]
    omega
theorem placesF_mem {size ln : Int} (hl : 1 ≤ ln) (p : Int) : ∀ {bs : List (Int × Int)} {e : Int}, VL size e bs → (p ∈ placesF (gapsF size e bs) ln ↔ e ≤ p ∧ p + ln ≤ size ∧ ∀ x ∈ bs, p + ln ≤ x.1 ∨ x.1 + x.2 ≤ p)
  | [], e, h => by
    have h' : e ≤ size := h
    have one : ∀ a c : Int, p ∈ placesF [(a, c)] ln ↔ a ≤ p ∧ p + ln ≤ a + c := by
      intro a c
      unfold placesF
      rw [List.flatMap_singleton, List.mem_map]
      constructor
      · rintro ⟨i, hi, rfl⟩
        have := List.mem_range.mp hi
        simp only at *
        omega
      · rintro ⟨h1, h2⟩
        exact ⟨(p - a).toNat, List.mem_range.mpr (by simp only; omega), by simp only; omega⟩
    rw [gapsF]
    split
    · rw [one]
      simp
      omega
    · simp [placesF]
      omega
  | (s, l) :: r, e, h => by
    obtain ⟨h1, h2, h3⟩ := h
    have ih := placesF_mem hl p h3
    have hm := h3.mem
    have hs := h3.le_size
    have app : ∀ g gs, p ∈ placesF (g :: gs) ln ↔ p ∈ placesF [g] ln ∨ p ∈ placesF gs ln := by
      intro g gs
      unfold placesF
      rw [List.flatMap_cons, List.flatMap_singleton, List.mem_append]
    have one : ∀ a c : Int, p ∈ placesF [(a, c)] ln ↔ a ≤ p ∧ p + ln ≤ a + c := by
      intro a c
      unfold placesF
      rw [List.flatMap_singleton, List.mem_map]
      constructor
      · rintro ⟨i, hi, rfl⟩
        have := List.mem_range.mp hi
        simp only at *
        omega
      · rintro ⟨h1, h2⟩
        exact ⟨(p - a).toNat, List.mem_range.mpr (by simp only; omega), by simp only; omega⟩
    have goal : ((e ≤ p ∧ p + ln ≤ s) ∨ p ∈ placesF (gapsF size (s + l) r) ln) ↔ e ≤ p ∧ p + ln ≤ size ∧ ∀ x ∈ (s, l) :: r, p + ln ≤ x.1 ∨ x.1 + x.2 ≤ p := by
      rw [ih, List.forall_mem_cons]
      simp only
      constructor
      · rintro (⟨a1, a2⟩ | ⟨a1, a2, a3⟩)
        · exact ⟨a1, by omega, .inl a2, fun x hx => .inl (by have := hm x hx; omega)⟩
        · exact ⟨by omega, a2, .inr a1, a3⟩
      · rintro ⟨a1, a2, a3, a4⟩
        rcases a3 with a3 | a3
        · exact .inl ⟨a1, a3⟩
        · exact .inr ⟨a3, a2, a4⟩
    rw [gapsF]
    split
    · rw [app, one, show e + (s - e) = s by omega]
      exact goal
    · rw [← goal]
      constructor
      · exact .inr
      · rintro (⟨a1, a2⟩ | a)
        · omega
        · exact a
theorem placesF_inc {size ln : Int} (hl : 1 ≤ ln) : ∀ {bs : List (Int × Int)} {e : Int}, VL size e bs → (placesF (gapsF size e bs) ln).Pairwise (· < ·) := by
  have rng : ∀ (a : Int) (n : Nat), ((List.range n).map fun i : Nat => a + (i : Int)).Pairwise (· < ·) := by
    intro a n
    rw [List.pairwise_map]
    exact List.pairwise_lt_range.imp fun {x y} h => by omega
  intro bs
  induction bs with
  | nil =>
    intro e h
    rw [gapsF]
    split
    · unfold placesF
      rw [List.flatMap_singleton]
      exact rng _ _
    · simp [placesF]
  | cons b r ih =>
    intro e h
    obtain ⟨s, l⟩ := b
    obtain ⟨h1, h2, h3⟩ := h
    rw [gapsF]
    split
    · have ee : placesF ((e, s - e) :: gapsF size (s + l) r) ln = ((List.range ((s - e) - ln + 1).toNat).map fun i : Nat => e + (i : Int)) ++ placesF (gapsF size (s + l) r) ln := by
        unfold placesF
        rw [List.flatMap_cons]
      rw [ee, List.pairwise_append]
      refine ⟨rng _ _, ih h3, fun x hx y hy => ?_⟩
      obtain ⟨i, hi, rfl⟩ := List.mem_map.mp hx
      have := List.mem_range.mp hi
      have := ((placesF_mem hl y h3).mp hy).1
      omega
    · exact ih h3
def sp_places : Sp := fun vs H Q _ => ∃ (a : Addr) (size ln : Int) (bs : List (Int × Int)), vs = [.int size, .ref a, .int ln] ∧ LT bV H a bs ∧ bs.length ≤ 1000 ∧ VL size 0 bs ∧ size ≤ 1000 ∧ 1 ≤ ln ∧ ln ≤ 1000 ∧
  ∀ p H', H p = none → Same H H' → H' p = some (.lst ((placesF (gapsF size 0 bs) ln).map V.int)) → Q (.ref p) H'
theorem mk_places {f f1 : Addr} {fd fd1 : FuncData} (T : Txt mg) (F : Fun K "places" "places" s_places f fd) (m : mg "places" = some (.ref f)) (b : Binds K fd ["size", "layout", "length"] [])
    (C_gaps : Cal P w K mg base "gaps" 1 f1 fd1 ["size", "layout"] sp_gaps) :
    Cal P w K mg base "places" 2 f fd ["size", "layout", "length"] sp_places := by
  refine ⟨F.ok sc_places (fun vs H Q E h => ?_) (fun cdv A outer s H vs Q E hr h => ?_), m, F.kp, b⟩
  · obtain ⟨a, size, ln, bs, rfl, _⟩ := h
    rfl
  obtain ⟨a, size, ln, bs, rfl, hL, hlen, hv, hz, hl1, hl2, q⟩ := h
  have hgp := gap_pos size bs 0
  have hgs := gap_sum hv
  have hnn := live_nonneg hv
  refine ⟨_, (pss_one (ps_ret (show PE _ _ (tLc2 _ _ _ _ _ _ _ [3, 4, 5] [5]) from pe_lc2 (own := [("start", 3), ("cells", 4), ("place", 5)]) (vs1 := [5]) (g := gTup K 2 (gCons (gName 3) (gCons (gName 4) gNil))) (g1 := gName 5) (tt := tYes) (tt1 := tYes) rfl sc_places.nd (pi_list (pe_call C_gaps.ok (hr.mono (by first | decide | omega)) rfl C_gaps.mg C_gaps.kp C_gaps.b .nil pass0 (pa_cons (pv 0) (pa_cons (pv 1) pa_nil)))) (blkOk_by (own := [("start", 3), ("cells", 4), ("place", 5)]) (N := ["size", "layout", "length", "start", "cells", "place"]) (sc := defScope s_places) (by decide +kernel)) (by decide) (fun _ _ _ _ _ => (pg_tup rfl (pgs_cons (pg_name (i := 3) sc_places.nd rfl (Or.inl rfl)) (pgs_cons (pg_name (i := 4) sc_places.nd rfl (Or.inl rfl)) pgs_nil)))) (fun _ _ _ _ _ => pts_nil) (fun _ _ _ _ _ => (pi_range2 rfl T.range (pa_cons (pv 3) (pa_cons (pe_op op_add (pe_op op_sub (pe_op op_add (pv 3) (pv 4)) (pv 2)) pe_int) pa_nil)))) (fun _ _ _ _ _ => (pg_name (i := 5) sc_places.nd rfl (Or.inl rfl))) (fun _ _ _ _ _ => pts_nil) (fun _ _ _ _ _ => (pv 5))))), ?_⟩
  try dsimp only [cxOf, Cx.nox, Cx.wish]
  rw [show start ["size", "layout", "length", "start", "cells", "place"] [V.int size, V.ref a, V.int ln] = [some (V.int size), some (V.ref a), some (V.int ln), none, none, none] from rfl]
  walk_at "rd"
  refine ⟨a, size, bs, rfl, hL, hlen, fun G H1 nG s1 hG => ?_⟩
  obtain ⟨gs, hgs1, hGT⟩ := id hG
  refine r_iL2 (SqL.of hgs1) ?_
  intro D nD
  have bound : ∀ i, ((placesF ((gapsF size 0 bs).take i) ln).length : Int) ≤ 1000 := fun i => by
    have h1 := placesF_len hl1 ((gapsF size 0 bs).take i) fun g hg => hgp g (List.mem_of_mem_take hg)
    have h2 : (((gapsF size 0 bs).take i).map (·.2)).sum ≤ gapSum (gapsF size 0 bs) := by
      have e : gapSum (gapsF size 0 bs) = (((gapsF size 0 bs).take i).map (·.2)).sum + (((gapsF size 0 bs).drop i).map (·.2)).sum := by
        unfold gapSum
        rw [← List.sum_append, ← List.map_append, List.take_append_drop]
      have h3 : 0 ≤ (((gapsF size 0 bs).drop i).map (·.2)).sum := sum_nonneg fun x hx => by
        obtain ⟨g, hg, rfl⟩ := List.mem_map.mp hx
        have := hgp g (List.mem_of_mem_drop hg)
        omega
      omega
    omega
  refine w_list (K := K) (a := G) (xs := gs.map V.ref) (fun i H' => H' D = some (.lst ((placesF ((gapsF size 0 bs).take i) ln).map V.int)) ∧ Same H1 H') ⟨upd_same, same_upd nD⟩ (fun i H' _ h => SqL.of (h.2 _ _ hgs1)) ?_ ?_
  · rintro i x H2 hx ⟨hD, s2⟩
    rw [List.getElem?_map] at hx
    obtain ⟨t, et, rfl⟩ := Option.map_eq_some_iff.mp hx
    obtain ⟨y, eb, htup⟩ := (hGT.same s2).2 i t et
    have ey := hgp y (List.mem_of_getElem? eb)
    have em : (gapsF size 0 bs).take (i + 1) = (gapsF size 0 bs).take i ++ [y] := by
      rw [List.take_add_one, eb]
      rfl
    have b1 := bound (i + 1)
    rw [em, placesF_snoc, List.length_append, List.length_map, List.length_range] at b1
    have hy := gap_in hv y (List.mem_of_getElem? eb)
    refine r_gtup (SqT.of htup) rfl ?_
    walk_at "rd"
    refine ⟨by omega, ?_⟩
    rw [show y.1 + y.2 - ln + 1 - y.1 = y.2 - ln + 1 by omega]
    refine w_range (lo := y.1) (n := (y.2 - ln + 1).toNat) (fun j H' => H' D = some (.lst ((placesF ((gapsF size 0 bs).take i) ln ++ (List.range j).map fun i : Nat => y.1 + (i : Int)).map V.int)) ∧ Same H1 H') ⟨by simpa using hD, s2⟩ ?_ ?_
    · rintro j H3 hj ⟨hD3, s3⟩
      walk_at "rd"
      refine ⟨_, hD3, by rw [List.length_map, List.length_append, List.length_map, List.length_range, sizeLine_eq]; omega, ?_, But.upd.new nD s3⟩
      rw [upd_same, List.range_succ, List.map_append, List.map_append, List.map_append, List.map_append, List.append_assoc]
      rfl
    · rintro H3 ⟨hD3, s3⟩
      refine ⟨?_, s3⟩
      rw [hD3, em, placesF_snoc]
  · rintro H2 ⟨hD, s2⟩
    rw [List.length_map, hGT.1, List.take_length] at hD
    walk_at "rd"
    exact q D H2 (s1.free nD) (s1.trans s2) hD
def optV : Option Int → V
  | none => .non
  | some i => .int i
def firstF (ns : List Int) (c : Int) : Option Int := (ns.find? fun x => decide (x ≥ c)).or ns.head?
def sp_first_place (K : PySem.W.Frag) : Sp := fun vs H Q _ => ∃ (a : Addr) (ns : List Int) (c : Int), vs = [.ref a, .int c] ∧ SqL K H a (ns.map V.int) ∧ Q (optV (firstF ns c)) H
theorem find_drop {ns : List Int} {c : Int} {i : Nat} {x : Int} (e : ns[i]? = some x) (h : (ns.drop i).find? (fun x => decide (x ≥ c)) = ns.find? (fun x => decide (x ≥ c))) : (x ≥ c → ns.find? (fun x => decide (x ≥ c)) = some x) ∧ (¬ x ≥ c → (ns.drop (i + 1)).find? (fun x => decide (x ≥ c)) = ns.find? (fun x => decide (x ≥ c))) := by
  rw [drop_get e, List.find?_cons] at h
  constructor
  · intro hc
    rw [decide_eq_true hc] at h
    exact h.symm
  · intro hc
    rw [decide_eq_false hc] at h
    exact h
theorem mk_first_place {f : Addr} {fd : FuncData} (T : Txt mg) (F : Fun K "first_place" "first_place" s_first_place f fd) (m : mg "first_place" = some (.ref f)) (b : Binds K fd ["found", "cursor"] []) :
    Cal P w K mg base "first_place" 1 f fd ["found", "cursor"] (sp_first_place K) := by
  refine ⟨F.ok sc_first_place (fun vs H Q E h => ?_) (fun cdv A outer s H vs Q E hr h => ?_), m, F.kp, b⟩
  · obtain ⟨a, ns, c, rfl, _⟩ := h
    rfl
  obtain ⟨a, ns, c, rfl, hS, q⟩ := h
  refine ⟨_, (pss_cons (ps_for PassesOwn.never rfl (pi_list (pv 0)) (pg_name (i := 2) sc_first_place.nd rfl (Or.inl rfl))
      (pss_one (ps_if (pt_cmpR op_ge (pv 2) (pv 1) (nomark _))
      (pss_one (ps_ret (pv 2)))
      pss_nil))) (pss_one (ps_ret (pe_ifExp (pt_truthN (pv 0)) (pe_ix (show IxR _ (rIxL K) from ix_list) (pv 0) pe_int (fun _ _ => rfl)) pe_non)))), ?_⟩
  try dsimp only [cxOf, Cx.nox, Cx.wish]
  rw [show start ["found", "cursor", "start"] [V.ref a, V.int c] = [some (V.ref a), some (V.int c), none] from rfl]
  walk_at "rd"
  refine r_iL2 hS ?_
  refine for_list (K := K) (a := a) (xs := ns.map V.int) (fun i σ H' => ∃ x2 : Option V, σ = [some (.ref a), some (.int c), x2] ∧ H' = H ∧ (ns.drop i).find? (fun x => decide (x ≥ c)) = ns.find? (fun x => decide (x ≥ c)))
    ⟨none, rfl, rfl, rfl⟩ (fun i σ H' _ ⟨_, _, e, _⟩ => e ▸ hS) ?_ ?_
  · rintro i x σ H' hx ⟨x2, rfl, rfl, hd⟩
    rw [List.getElem?_map] at hx
    obtain ⟨y, ey, rfl⟩ := Option.map_eq_some_iff.mp hx
    obtain ⟨f1, f2⟩ := find_drop ey hd
    walk_at "rd"
    refine r_ite (fun c1 => ?_) (fun c1 => ?_)
    · walk_at "rd"
      have e : firstF ns c = some y := by unfold firstF; rw [f1 c1]; rfl
      rw [e] at q
      exact q
    · walk_at "rd"
      exact ⟨_, rfl, rfl, f2 c1⟩
  · rintro σ H' ⟨x2, rfl, rfl, hd⟩
    rw [List.length_map, List.drop_length, List.find?_nil] at hd
    have e : firstF ns c = ns.head? := by unfold firstF; rw [← hd]; rfl
    rw [e] at q
    walk_at "rd"
    refine r_truL hS ?_
    cases ns with
    | nil =>
      show if (!true) = true then _ else _
      walk_at "rd"
      exact q
    | cons n r =>
      show if (!false) = true then _ else _
      walk_at "rd"
      refine r_ixL hS (v := .int n) (atI_nat (j := 0) rfl) ?_
      exact q
end
end Pf

namespace Pf
open PySem L2
local macro_rules | `(tactic| walk_at "rd1") => `(tactic| first
  | with_reducible refine r_seqA ?_
  | with_reducible refine r_seqD ?_
  | with_reducible refine r_seqF ?_
  | with_reducible refine r_seqN ?_
  | with_reducible refine r_asg ?_
  | with_reducible refine r_drop ?_
  | with_reducible refine r_ret ?_
  | with_reducible refine r_ifS ?_
  | ((with_reducible refine r_next ?_); try dsimp only)
  | ((with_reducible refine r_name ?_); try dsimp only [List.set_cons_succ, List.set_cons_zero, wipe])
  | ((with_reducible refine' r_var ?rdh ?_); (case rdh => rfl))
  | with_reducible refine r_c ?_
  | with_reducible refine r_op ?_
  | with_reducible refine r_un ?_
  | with_reducible refine r_I0 ?_
  | ((with_reducible refine r_I ?_ ?_); (· first | decide | exact Or.inl (by decide) | exact Or.inr (by decide) | (show _ ∧ _; constructor <;> decide) | (show (0:Int) < _; omega) | (show CDiv _ _; unfold CDiv; omega) ))
  | with_reducible refine r_U ?_
  | with_reducible refine r_eqI ?_
  | with_reducible refine r_neI ?_
  | with_reducible refine r_eqB ?_
  | with_reducible refine r_neB ?_
  | with_reducible refine r_test ?_
  | with_reducible refine r_B ?_
  | with_reducible refine r_bl ?_
  | with_reducible refine r_bl2 ?_
  | with_reducible refine r_yes ?_
  | with_reducible refine r_wipe (by rfl) ?_
  | with_reducible refine r_rfl ?_
  | ((with_reducible refine' r_eqA ?rdh ?_); (case rdh => rfl))
  | with_reducible refine r_and ?_
  | with_reducible refine r_or ?_
  | with_reducible refine r_not ?_
  | with_reducible refine r_andV ?_
  | with_reducible refine r_orV ?_
  | with_reducible refine r_notV ?_
  | with_reducible refine r_ifE ?_
  | with_reducible refine r_nil ?_
  | with_reducible refine r_cons ?_
  | with_reducible refine r_tup ?_
  | with_reducible refine r_lst ?_
  | with_reducible refine r_CB ?_
  | with_reducible refine r_call ?_
  | with_reducible refine r_bm ?_
  | with_reducible refine r_bm0 ?_
  | with_reducible refine r_int ?_
  | with_reducible refine r_i2 ?_
  | with_reducible refine r_i1 ?_
  | with_reducible refine r_gcons ?_
  | with_reducible refine r_gnil ?_
  | with_reducible refine r_gsub ?_
  | with_reducible refine iteT ?_
  | with_reducible refine iteF ?_
  | with_reducible refine ite_notT ?_
  | with_reducible refine ite_notF ?_
  | with_reducible refine r_isi_ib ?_
  | with_reducible refine r_isi_ii ?_
  | with_reducible refine r_isi_bb ?_
  | with_reducible refine r_isi_nb ?_
  | with_reducible refine r_isi_nt ?_
  | ((with_reducible refine' r_isi_ll ?rdh ?_); (case rdh => first | assumption | exact upd_same))
  | ((with_reducible refine' r_isi_tt ?rdh ?_); (case rdh => first | assumption | exact upd_same))
  | with_reducible refine r_sl ?_
  | with_reducible refine r_noPart ?_
  | with_reducible refine r_part ?_
  | with_reducible refine r_int1 ?_
  | with_reducible refine r_tru ?_
  | with_reducible refine r_ckw ?_
  | with_reducible refine r_lc ?_
  | with_reducible refine r_lc2 ?_
  | with_reducible refine r_forS ?_
  | with_reducible refine r_iR1 ?_
  | with_reducible refine r_iR2 ?_
  | with_reducible refine r_iL ?_
  | ((with_reducible refine' r_lenL ?rdh ?_); (case rdh => walk_at "sq"))
  | ((with_reducible refine' r_ixL ?rdh ?rda ?_); (case rdh => walk_at "sq"); (case rda => walk_at "at"))
  | ((with_reducible refine' r_ixT ?rdh ?rda ?_); (case rdh => walk_at "sq"); (case rda => walk_at "at")))
local macro_rules | `(tactic| walk_at "sq") => `(tactic| first
  | assumption
  | exact SqL.of (by assumption)
  | exact SqL.of upd_same
  | exact SqT.of (by assumption)
  | exact SqT.of upd_same)
local macro_rules | `(tactic| walk_at "sml") => `(tactic| (rw [sizeLine_eq]; simp))
local macro_rules | `(tactic| walk_at "at") => `(tactic| first | assumption | rfl)
local macro_rules | `(tactic| walk_at "rd") => `(tactic| repeat walk_at "rd1")
local macro_rules | `(tactic| walk_at "rd1") => `(tactic| first
  | with_reducible refine r_addS ?_
  | with_reducible refine r_lenS ?_
  | with_reducible refine r_eqS ?_
  | with_reducible refine r_neS ?_
  | with_reducible refine r_iES ?_
  | with_reducible refine r_iES1 ?_
  | with_reducible refine r_iEL ?_)
section
variable {w : World} {P : Program} {base : Heap} {K : PySem.W.Frag} {mg : Str → Option Value}
/-- the policies' names -/
def polS : Nat → Str
  | 0 => "first"
  | 1 => "best"
  | 2 => "worst"
  | _ => "next"
def keyOf (gs : List (Int × Int)) (i : Nat) : Int := (gs.getD i (0, 0)).2
def chosenIx (gs : List (Int × Int)) : Nat → Nat
  | 1 => argBest (fun a b => decide (keyOf gs a < keyOf gs b)) (gs.length - 1)
  | 2 => argBest (fun a b => decide (keyOf gs a > keyOf gs b)) (gs.length - 1)
  | _ => 0
/-- the table of chosen_area's code objects -/
abbrev TT (P : Addr) : List (Addr × Str) := [(P, (Str.ofString "chosen_area" ++ Str.ofString ".<locals>.") ++ Str.ofString "<lambda>")]
theorem keys_at {H : Hp} {ts : List Addr} {gs : List (Int × Int)} (h : TL bV H ts gs) : ∀ i t, ts[i]? = some t → ∃ xs, SqT K H t xs ∧ xs[1]? = some (V.int (keyOf gs i)) := fun i t e => by
  obtain ⟨g, eg, tup⟩ := h.2 i t e
  refine ⟨_, SqT.of tup, ?_⟩
  unfold keyOf
  rw [List.getD_eq_getElem?_getD, eg]
  rfl
def sp_chosen (P : Addr) : Sp := fun vs H Q _ => ∃ (a : Addr) (gs : List (Int × Int)) (p : Nat), vs = [.ref a, .str (polS p)] ∧ p ≤ 2 ∧ LT bV H a gs ∧ gs ≠ [] ∧ gs.length ≤ 1000 ∧ LamX.Tabs (TT P) H ∧
  ∀ (H' : Hp) (t : Addr) (g : Int × Int), LamX.ExtN H H' → LamX.Tabs (TT P) H' → gs[chosenIx gs p]? = some g → H' t = some (.tup (bV g)) → Q (.ref t) H'
theorem mk_chosen_area {Pr : Program} {f c Pt : Addr} {oc kV dc pm ct : Value} {od an : Option Addr} {sl : Array (Option Value)} (T : Txt mg) (lk : K.lookup f = some ⟨oc, od, .func (PySem.W.fnOf "chosen_area" "chosen_area" (defArgs s_chosen_area) (defBody s_chosen_area) (defScope s_chosen_area) .none kV dc pm an (.ref c) ct), sl⟩)
    (hcd : PySem.W.codeIn K (.ref c) "chosen_area" = true) (kp : PySem.W.keepIn K (.ref f) = true) (m : mg "chosen_area" = some (.ref f)) (TB : LamX.TabB base mg c Pt) :
    Cal Pr w K mg base "chosen_area" 2 f (PySem.W.fnOf "chosen_area" "chosen_area" (defArgs s_chosen_area) (defBody s_chosen_area) (defScope s_chosen_area) .none kV dc pm an (.ref c) ct) ["areas", "policy"] (sp_chosen Pt) := by
  refine ⟨fn_of lk hcd sc_chosen_area (fun vs H Q E h => ?_) (fun A outer s H vs Q E hr h => ?_), m, kp, .all fun us hl => match us, hl with | [_, _], _ => rfl⟩
  · obtain ⟨a, gs, p, rfl, _⟩ := h
    rfl
  obtain ⟨a, gs, p, rfl, hp, ⟨ts, ha, ht⟩, ne, hlen, tabs, q⟩ := h
  have hl := ht.1
  have tne : ts ≠ [] := fun z => ne (List.eq_nil_of_length_eq_zero (by rw [← hl, z]; rfl))
  refine (fun hx => ?_ : (∃ t, PSs (cxOf CX0 Pr w K mg base ["areas", "policy"] "chosen_area" (defScope s_chosen_area) f (.ref c) A outer s H E).nox (defBody s_chosen_area) t ∧ t { nx := fun _ H' => Q .non H', rt := Q } (start ["areas", "policy"] [.ref a, .str (polS p)]) H) → _) ?_
  · obtain ⟨t, h1, h2⟩ := hx
    exact ⟨t, h1.nox, h2⟩
  refine ⟨_, (pss_cons (ps_if (pt_cmpR op_eq (pv 1) pe_str (nomark _))
      (pss_one (ps_ret (pe_minKey rfl hr rfl T.min (pa_cons (pv 0) pa_nil) ⟨rfl, rfl, rfl, by decide +kernel, rfl, fun _ _ _ _ _ _ => rfl, ⟨_, _, _, _, rfl⟩, by decide⟩ (by decide) TB rfl List.mem_cons_self (fun p hp _ => by cases List.mem_singleton.mp hp; rfl) rfl)))
      pss_nil) (pss_cons (ps_if (pt_cmpR op_eq (pv 1) pe_str (nomark _))
      (pss_one (ps_ret (pe_maxKey rfl hr rfl T.max (pa_cons (pv 0) pa_nil) ⟨rfl, rfl, rfl, by decide +kernel, rfl, fun _ _ _ _ _ _ => rfl, ⟨_, _, _, _, rfl⟩, by decide⟩ (by decide) TB rfl List.mem_cons_self (fun p hp _ => by cases List.mem_singleton.mp hp; rfl) rfl)))
      pss_nil) (pss_one (ps_ret (pe_ix (show IxR _ (rIxL K) from ix_list) (pv 0) pe_int (fun _ _ => rfl)))))), ?_⟩
  try dsimp only [cxOf, Cx.nox, Cx.wish]
  rw [show start ["areas", "policy"] [V.ref a, V.str (polS p)] = [some (V.ref a), some (V.str (polS p))] from rfl]
  refine r_seq ?_
  walk_at "rd"
  have hb : decide (polS p = Str.ofString "best") = decide (p = 1) := match p, hp with
    | 0, _ => by decide +kernel
    | 1, _ => by decide +kernel
    | 2, _ => by decide +kernel
  have hw : decide (polS p = Str.ofString "worst") = decide (p = 2) := match p, hp with
    | 0, _ => by decide +kernel
    | 1, _ => by decide +kernel
    | 2, _ => by decide +kernel
  have fin : ∀ (H2 : Hp) (t : Addr) (n : Nat), LamX.ExtN H H2 → LamX.Tabs (TT Pt) H2 → ts[n]? = some t → chosenIx gs p = n → Q (.ref t) H2 := fun H2 t n ext tabs2 at_ e => by
    obtain ⟨g, eg, tup⟩ := ht.2 n t at_
    exact q H2 t g ext tabs2 (by rw [e]; exact eg) (ext _ _ tup (by intro ps z; cases z))
  rw [hb]
  refine r_ite (fun c1 => ?_) (fun c1 => ?_)
  · refine r_ret ?_
    show (tCons (tVar 0) tNil) _ _ _
    walk_at "rd"
    refine ⟨a, ts, keyOf gs, rfl, tabs, SqL.of ha, tne, keys_at ht, fun H2 ext tabs2 t best => fin H2 t _ ext tabs2 best ?_⟩
    rw [c1, hl]
    rfl
  walk_at "rd"
  refine r_seq ?_
  walk_at "rd"
  rw [hw]
  refine r_ite (fun c2 => ?_) (fun c2 => ?_)
  · refine r_ret ?_
    show (tCons (tVar 0) tNil) _ _ _
    walk_at "rd"
    refine ⟨a, ts, keyOf gs, rfl, tabs, SqL.of ha, tne, keys_at ht, fun H2 ext tabs2 t best => fin H2 t _ ext tabs2 best ?_⟩
    rw [c2, hl]
    rfl
  walk_at "rd"
  obtain ⟨t0, tr, rfl⟩ := List.exists_cons_of_ne_nil tne
  refine r_ixL (i := 0) (v := .ref t0) (SqL.of ha) (show atI _ ((0 : Nat) : Int) = _ from at_nat (by simp)) ?_
  refine fin H t0 0 (LamX.ExtN.refl H) tabs rfl ?_
  obtain rfl : p = 0 := by omega
  rfl
end
end Pf

namespace Pf
open PySem L2
local macro_rules | `(tactic| walk_at "rd1") => `(tactic| first
  | with_reducible refine r_seqA ?_
  | with_reducible refine r_seqD ?_
  | with_reducible refine r_seqF ?_
  | with_reducible refine r_seqN ?_
  | with_reducible refine r_asg ?_
  | with_reducible refine r_drop ?_
  | with_reducible refine r_ret ?_
  | with_reducible refine r_ifS ?_
  | ((with_reducible refine r_next ?_); try dsimp only)
  | ((with_reducible refine r_name ?_); try dsimp only [List.set_cons_succ, List.set_cons_zero, wipe])
  | ((with_reducible refine' r_var ?rdh ?_); (case rdh => rfl))
  | with_reducible refine r_c ?_
  | with_reducible refine r_op ?_
  | with_reducible refine r_un ?_
  | with_reducible refine r_I0 ?_
  | ((with_reducible refine r_I ?_ ?_); (· first | decide | exact Or.inl (by decide) | exact Or.inr (by decide) | (show _ ∧ _; constructor <;> decide) | (show (0:Int) < _; omega) | (show CDiv _ _; unfold CDiv; omega) ))
  | with_reducible refine r_U ?_
  | with_reducible refine r_eqI ?_
  | with_reducible refine r_neI ?_
  | with_reducible refine r_eqB ?_
  | with_reducible refine r_neB ?_
  | with_reducible refine r_test ?_
  | with_reducible refine r_B ?_
  | with_reducible refine r_bl ?_
  | with_reducible refine r_bl2 ?_
  | with_reducible refine r_yes ?_
  | with_reducible refine r_wipe (by rfl) ?_
  | with_reducible refine r_rfl ?_
  | ((with_reducible refine' r_eqA ?rdh ?_); (case rdh => rfl))
  | with_reducible refine r_and ?_
  | with_reducible refine r_or ?_
  | with_reducible refine r_not ?_
  | with_reducible refine r_andV ?_
  | with_reducible refine r_orV ?_
  | with_reducible refine r_notV ?_
  | with_reducible refine r_ifE ?_
  | with_reducible refine r_nil ?_
  | with_reducible refine r_cons ?_
  | with_reducible refine r_tup ?_
  | with_reducible refine r_lst ?_
  | with_reducible refine r_CB ?_
  | with_reducible refine r_call ?_
  | with_reducible refine r_bm ?_
  | with_reducible refine r_bm0 ?_
  | with_reducible refine r_int ?_
  | with_reducible refine r_i2 ?_
  | with_reducible refine r_i1 ?_
  | with_reducible refine r_gcons ?_
  | with_reducible refine r_gnil ?_
  | with_reducible refine r_gsub ?_
  | with_reducible refine iteT ?_
  | with_reducible refine iteF ?_
  | with_reducible refine ite_notT ?_
  | with_reducible refine ite_notF ?_
  | with_reducible refine r_isi_ib ?_
  | with_reducible refine r_isi_ii ?_
  | with_reducible refine r_isi_bb ?_
  | with_reducible refine r_isi_nb ?_
  | with_reducible refine r_isi_nt ?_
  | ((with_reducible refine' r_isi_ll ?rdh ?_); (case rdh => first | assumption | exact upd_same))
  | ((with_reducible refine' r_isi_tt ?rdh ?_); (case rdh => first | assumption | exact upd_same))
  | with_reducible refine r_sl ?_
  | with_reducible refine r_noPart ?_
  | with_reducible refine r_part ?_
  | with_reducible refine r_int1 ?_
  | with_reducible refine r_tru ?_
  | with_reducible refine r_ckw ?_
  | with_reducible refine r_lc ?_
  | with_reducible refine r_lc2 ?_
  | with_reducible refine r_forS ?_
  | with_reducible refine r_iR1 ?_
  | with_reducible refine r_iR2 ?_
  | with_reducible refine r_iL ?_
  | ((with_reducible refine' r_lenL ?rdh ?_); (case rdh => walk_at "sq"))
  | ((with_reducible refine' r_ixL ?rdh ?rda ?_); (case rdh => walk_at "sq"); (case rda => walk_at "at"))
  | ((with_reducible refine' r_ixT ?rdh ?rda ?_); (case rdh => walk_at "sq"); (case rda => walk_at "at")))
local macro_rules | `(tactic| walk_at "sq") => `(tactic| first
  | assumption
  | exact SqL.of (by assumption)
  | exact SqL.of upd_same
  | exact SqT.of (by assumption)
  | exact SqT.of upd_same)
local macro_rules | `(tactic| walk_at "sml") => `(tactic| (rw [sizeLine_eq]; simp))
local macro_rules | `(tactic| walk_at "at") => `(tactic| first | assumption | rfl)
local macro_rules | `(tactic| walk_at "rd") => `(tactic| repeat walk_at "rd1")
local macro_rules | `(tactic| walk_at "rd1") => `(tactic| first
  | with_reducible refine r_addS ?_
  | with_reducible refine r_lenS ?_
  | with_reducible refine r_eqS ?_
  | with_reducible refine r_neS ?_
  | with_reducible refine r_iES ?_
  | with_reducible refine r_iES1 ?_
  | with_reducible refine r_iEL ?_)
section
variable {w : World} {P : Program} {base : Heap} {K : PySem.W.Frag} {mg : Str → Option Value}
def wideF (gs : List (Int × Int)) (ln : Int) : List (Int × Int) := gs.filter fun g => decide (g.2 ≥ ln)
/-- the start that a policy takes -/
def dueF (gs : List (Int × Int)) (ln : Int) (p : Nat) (c : Int) : Option Int :=
  if p = 3 then firstF (placesF gs ln) c else (wideF gs ln)[chosenIx (wideF gs ln) p]?.map (·.1)
/-- a def that has a default -/
structure CalD (P : Program) (w : World) (K : PySem.W.Frag) (mg : Str → Option Value) (base : Heap) (x : Str) (k : Nat) (f : Addr) (fd : FuncData) (ps : List Str) (ds : List Value) (dvs : List V) (sp : Sp) : Prop where
  ok : FnOk P w K mg base CX0 k f fd ps sp
  mg : mg x = some (.ref f)
  (kp : PySem.W.keepIn K (.ref f) = true)
  b : Binds K fd ps []
  d4 : Vals dvs ds
  b4 : Binds K fd ps ds
theorem r_callD {H : Hp} {Q : VK} {σ : L2.St} {sp : Sp} {dvs : List V} {E : XK} {t : TA} (h : t σ H fun vs H1 => sp (vs ++ dvs) H1 Q E) : tCall sp dvs E t σ H Q := h
def sp_place (P : Addr) : Sp := fun vs H Q _ => ∃ (a : Addr) (size ln c : Int) (p : Nat) (bs : List (Int × Int)), vs = [.int size, .ref a, .int ln, .str (polS p), .int c] ∧ p ≤ 3 ∧ LT bV H a bs ∧ bs.length ≤ 900 ∧ VL size 0 bs ∧ size ≤ 1000 ∧ 1 ≤ ln ∧ ln ≤ 1000 ∧ LamX.Tabs (TT P) H ∧
  ∀ H' : Hp, LamX.ExtN H H' → LamX.Tabs (TT P) H' → Q (optV (dueF (gapsF size 0 bs) ln p c)) H'
theorem mk_place_block {f f1 f2 f3 f4 Pt : Addr} {fd fd1 fd2 fd3 fd4 : FuncData} {ds : List Value} (T : Txt mg) (F : FunD K "place_block" "place_block" (defArgs s_place_block) (defBody s_place_block) (defScope s_place_block) [.int 0] [] f fd) (m : mg "place_block" = some (.ref f))
    (b5 : Binds K fd ["size", "layout", "length", "policy", "cursor"] []) (d4 : Vals [.int 0] ds) (b4 : Binds K fd ["size", "layout", "length", "policy", "cursor"] ds)
    (C_gaps : Cal P w K mg base "gaps" 1 f1 fd1 ["size", "layout"] sp_gaps)
    (C_places : Cal P w K mg base "places" 2 f2 fd2 ["size", "layout", "length"] sp_places)
    (C_first_place : Cal P w K mg base "first_place" 1 f3 fd3 ["found", "cursor"] (sp_first_place K))
    (C_chosen_area : Cal P w K mg base "chosen_area" 2 f4 fd4 ["areas", "policy"] (sp_chosen Pt)) :
    CalD P w K mg base "place_block" 3 f fd ["size", "layout", "length", "policy", "cursor"] ds [.int 0] (sp_place Pt) := by
  refine ⟨F.ok sc_place_block (fun vs H Q E h => ?_) (fun cdv A outer s H vs Q E hr h => ?_), m, F.kp, b5, d4, b4⟩
  · obtain ⟨a, size, ln, c, p, bs, rfl, _⟩ := h
    rfl
  obtain ⟨a, size, ln, c, p, bs, rfl, hp, hL, hlen, hv, hsz, hl1, hl2, tabs, q⟩ := h
  refine (fun hx => ?_ : (∃ t, PSs (cxOf CX0 P w K mg base ["size", "layout", "length", "policy", "cursor", "wide", "start", "cells"] "place_block" (defScope s_place_block) f cdv A outer s H E).nox (defBody s_place_block) t ∧ t { nx := fun _ H' => Q .non H', rt := Q } (start ["size", "layout", "length", "policy", "cursor", "wide", "start", "cells"] [.int size, .ref a, .int ln, .str (polS p), .int c]) H) → _) ?_
  · obtain ⟨t, h1, h2⟩ := hx
    exact ⟨t, h1.nox, h2⟩
  refine ⟨_, (pss_cons (ps_if (pt_cmpR op_eq (pv 3) pe_str (nomark _))
      (pss_one (ps_ret (pe_call C_first_place.ok (hr.mono (by first | decide | omega)) rfl C_first_place.mg C_first_place.kp C_first_place.b .nil pass0 (pa_cons (pe_call C_places.ok (hr.mono (by first | decide | omega)) rfl C_places.mg C_places.kp C_places.b .nil pass0 (pa_cons (pv 0) (pa_cons (pv 1) (pa_cons (pv 2) pa_nil)))) (pa_cons (pv 4) pa_nil)))))
      pss_nil) (pss_cons (show PS _ _ (tAsg (tLc _ _ _ _ [6, 7]) _) from ps_setLc (i := 5) (own := [("start", 6), ("cells", 7)]) (g := gTup K 2 (gCons (gName 6) (gCons (gName 7) gNil))) rfl sc_place_block.nd rfl rfl (sw_true rfl rfl rfl (by decide +kernel)) (pi_list (pe_call C_gaps.ok (hr.mono (by first | decide | omega)) rfl C_gaps.mg C_gaps.kp C_gaps.b .nil pass0 (pa_cons (pv 0) (pa_cons (pv 1) pa_nil)))) (blkOk_by (own := [("start", 6), ("cells", 7)]) (N := ["size", "layout", "length", "policy", "cursor", "wide", "start", "cells"]) (sc := defScope s_place_block) (by decide +kernel)) (fun _ _ _ _ _ => (pg_tup rfl (pgs_cons (pg_name (i := 6) sc_place_block.nd rfl (Or.inl rfl)) (pgs_cons (pg_name (i := 7) sc_place_block.nd rfl (Or.inl rfl)) pgs_nil)))) (fun _ _ _ _ _ => (pts_one (pt_cmpR op_ge (pv 7) (pv 2) (nomark _)))) (fun _ _ _ _ _ => (pe_tup (pa_cons (pv 6) (pa_cons (pv 7) pa_nil))))) (pss_cons (ps_if (pt_not (pt_truthN (pv 5)))
      (pss_one (ps_ret pe_non))
      pss_nil) (pss_one (ps_ret (pe_ix (show IxR _ (rIxT K) from ix_tup) (pe_call C_chosen_area.ok (hr.mono (by first | decide | omega)) rfl C_chosen_area.mg C_chosen_area.kp C_chosen_area.b .nil pass0 (pa_cons (pv 5) (pa_cons (pv 3) pa_nil))) pe_int (fun _ _ => rfl))))))), ?_⟩
  try dsimp only [cxOf, Cx.nox, Cx.wish]
  rw [show start ["size", "layout", "length", "policy", "cursor", "wide", "start", "cells"] [V.int size, V.ref a, V.int ln, V.str (polS p), V.int c] = [some (V.int size), some (V.ref a), some (V.int ln), some (V.str (polS p)), some (V.int c), none, none, none] from rfl]
  refine r_seq ?_
  walk_at "rd"
  have hn : decide (polS p = Str.ofString "next") = decide (p = 3) := match p, hp with
    | 0, _ => by decide +kernel
    | 1, _ => by decide +kernel
    | 2, _ => by decide +kernel
    | 3, _ => by decide +kernel
  rw [hn]
  refine r_ite (fun c1 => ?_) (fun c1 => ?_)
  · walk_at "rd"
    refine ⟨a, size, ln, bs, rfl, hL, by omega, hv, hsz, hl1, hl2, fun p1 H1 np1 s1 hp1 => ?_⟩
    walk_at "rd"
    refine ⟨p1, placesF (gapsF size 0 bs) ln, c, rfl, SqL.of hp1, ?_⟩
    have z := q H1 (LamX.ExtN.of s1) (tabs.ext s1)
    unfold dueF at z
    rw [if_pos c1] at z
    exact z
  walk_at "rd"
  refine ⟨a, size, bs, rfl, hL, by omega, fun G H1 nG s1 hG => ?_⟩
  walk_at "rd"
  obtain ⟨ts, hts, hT⟩ := hG
  have hgl := gapsF_len size bs 0
  refine r_iL2 (SqL.of hts) ?_
  intro D nD
  refine w_list (K := K) (a := G) (xs := ts.map V.ref) (fun i H' => ∃ us : List Addr, H' D = some (.lst (us.map V.ref)) ∧ TL bV H' us (wideF ((gapsF size 0 bs).take i) ln) ∧ us.length ≤ i ∧ Same H1 H') ⟨[], upd_same, .nil, Nat.le_refl _, same_upd nD⟩ (fun i H' _ ⟨_, _, _, _, z⟩ => SqL.of (z _ _ hts)) ?_ ?_
  · rintro i x H2 hx ⟨us, hD, hU, hul, s2⟩
    rw [List.getElem?_map] at hx
    obtain ⟨t, et, rfl⟩ := Option.map_eq_some_iff.mp hx
    obtain ⟨g, eg, tup⟩ := hT.2 i t et
    have hi : i < ts.length := by
      by_cases z : i < ts.length
      · exact z
      · rw [List.getElem?_eq_none (by omega)] at et; cases et
    have hTl := hT.1
    refine r_gtup (SqT.of (s2 _ _ tup)) rfl ?_
    walk_at "rd"
    have step : wideF ((gapsF size 0 bs).take (i + 1)) ln = wideF ((gapsF size 0 bs).take i) ln ++ (if decide (g.2 ≥ ln) = true then [g] else []) := by
      unfold wideF
      rw [List.take_add_one, eg, List.filter_append, Option.toList_some, List.filter_cons, List.filter_nil]
    refine r_ite (fun c2 => ?_) (fun c2 => ?_)
    · walk_at "rd"
      refine ⟨by walk_at "sml", fun t2 nt => ?_⟩
      refine upd_new nt fun H3 ht3 s3 => ?_
      have hD3 := s3 _ _ hD
      refine ⟨_, hD3, by rw [List.length_map, sizeLine_eq]; omega, us ++ [t2], by rw [upd_same, List.map_append]; rfl, ?_, by simp; omega, But.upd.new nD (s2.trans s3)⟩
      rw [step, if_pos (decide_eq_true c2)]
      exact ((hU.same s3).but But.upd hD3).snoc (by rw [upd_ne (ne_of ht3 hD3 (by intro z; cases z))]; exact ht3)
    · refine ⟨us, hD, ?_, by omega, s2⟩
      rw [step, if_neg (by rw [decide_eq_false c2]; decide), List.append_nil]
      exact hU
  · rintro H2 ⟨us, hD, hU, hul, s2⟩
    rw [List.length_map, hT.1, List.take_length] at hU
    have hwl : (wideF (gapsF size 0 bs) ln).length ≤ 1000 := by
      have : (wideF (gapsF size 0 bs) ln).length ≤ (gapsF size 0 bs).length := List.length_filter_le _ _
      omega
    have ext2 : LamX.ExtN H H2 := LamX.ExtN.of (s1.trans s2)
    have tabs2 := tabs.ext (s1.trans s2)
    walk_at "rd"
    refine r_seq ?_
    walk_at "rd"
    refine r_truL (SqL.of hD) ?_
    by_cases ne : wideF (gapsF size 0 bs) ln = []
    · have : us = [] := List.eq_nil_of_length_eq_zero (by rw [hU.1, ne]; rfl)
      subst this
      walk_at "rd"
      have z := q H2 ext2 tabs2
      unfold dueF at z
      rw [if_neg c1, ne] at z
      exact z
    · have une : us ≠ [] := fun z => ne (List.eq_nil_of_length_eq_zero (by rw [← hU.1, z]; rfl))
      obtain ⟨u0, ur, eu⟩ := List.exists_cons_of_ne_nil une
      rw [show (!(List.map V.ref us).isEmpty) = true by rw [eu]; rfl]
      walk_at "rd"
      refine ⟨D, _, p, rfl, by omega, ⟨us, hD, hU⟩, ne, hwl, tabs2, fun H3 t g ext3 tabs3 at_ tup => ?_⟩
      walk_at "rd"
      have z := q H3 (ext2.trans ext3) tabs3
      unfold dueF at z
      rw [if_neg c1, at_] at z
      exact z
end
end Pf

namespace Pf
open PySem L2
local macro_rules | `(tactic| walk_at "rd1") => `(tactic| first
  | with_reducible refine r_seqA ?_
  | with_reducible refine r_seqD ?_
  | with_reducible refine r_seqF ?_
  | with_reducible refine r_seqN ?_
  | with_reducible refine r_asg ?_
  | with_reducible refine r_drop ?_
  | with_reducible refine r_ret ?_
  | with_reducible refine r_ifS ?_
  | ((with_reducible refine r_next ?_); try dsimp only)
  | ((with_reducible refine r_name ?_); try dsimp only [List.set_cons_succ, List.set_cons_zero, wipe])
  | ((with_reducible refine' r_var ?rdh ?_); (case rdh => rfl))
  | with_reducible refine r_c ?_
  | with_reducible refine r_op ?_
  | with_reducible refine r_un ?_
  | with_reducible refine r_I0 ?_
  | ((with_reducible refine r_I ?_ ?_); (· first | decide | exact Or.inl (by decide) | exact Or.inr (by decide) | (show _ ∧ _; constructor <;> decide) | (show (0:Int) < _; omega) | (show CDiv _ _; unfold CDiv; omega) ))
  | with_reducible refine r_U ?_
  | with_reducible refine r_eqI ?_
  | with_reducible refine r_neI ?_
  | with_reducible refine r_eqB ?_
  | with_reducible refine r_neB ?_
  | with_reducible refine r_test ?_
  | with_reducible refine r_B ?_
  | with_reducible refine r_bl ?_
  | with_reducible refine r_bl2 ?_
  | with_reducible refine r_yes ?_
  | with_reducible refine r_wipe (by rfl) ?_
  | with_reducible refine r_rfl ?_
  | ((with_reducible refine' r_eqA ?rdh ?_); (case rdh => rfl))
  | with_reducible refine r_and ?_
  | with_reducible refine r_or ?_
  | with_reducible refine r_not ?_
  | with_reducible refine r_andV ?_
  | with_reducible refine r_orV ?_
  | with_reducible refine r_notV ?_
  | with_reducible refine r_ifE ?_
  | with_reducible refine r_nil ?_
  | with_reducible refine r_cons ?_
  | with_reducible refine r_tup ?_
  | with_reducible refine r_lst ?_
  | with_reducible refine r_CB ?_
  | with_reducible refine r_call ?_
  | with_reducible refine r_bm ?_
  | with_reducible refine r_bm0 ?_
  | with_reducible refine r_int ?_
  | with_reducible refine r_i2 ?_
  | with_reducible refine r_i1 ?_
  | with_reducible refine r_gcons ?_
  | with_reducible refine r_gnil ?_
  | with_reducible refine r_gsub ?_
  | with_reducible refine iteT ?_
  | with_reducible refine iteF ?_
  | with_reducible refine ite_notT ?_
  | with_reducible refine ite_notF ?_
  | with_reducible refine r_isi_ib ?_
  | with_reducible refine r_isi_ii ?_
  | with_reducible refine r_isi_bb ?_
  | with_reducible refine r_isi_nb ?_
  | with_reducible refine r_isi_nt ?_
  | ((with_reducible refine' r_isi_ll ?rdh ?_); (case rdh => first | assumption | exact upd_same))
  | ((with_reducible refine' r_isi_tt ?rdh ?_); (case rdh => first | assumption | exact upd_same))
  | with_reducible refine r_sl ?_
  | with_reducible refine r_noPart ?_
  | with_reducible refine r_part ?_
  | with_reducible refine r_int1 ?_
  | with_reducible refine r_tru ?_
  | with_reducible refine r_ckw ?_
  | with_reducible refine r_lc ?_
  | with_reducible refine r_lc2 ?_
  | with_reducible refine r_forS ?_
  | with_reducible refine r_iR1 ?_
  | with_reducible refine r_iR2 ?_
  | with_reducible refine r_iL ?_
  | ((with_reducible refine' r_lenL ?rdh ?_); (case rdh => walk_at "sq"))
  | ((with_reducible refine' r_ixL ?rdh ?rda ?_); (case rdh => walk_at "sq"); (case rda => walk_at "at"))
  | ((with_reducible refine' r_ixT ?rdh ?rda ?_); (case rdh => walk_at "sq"); (case rda => walk_at "at")))
local macro_rules | `(tactic| walk_at "sq") => `(tactic| first
  | assumption
  | exact SqL.of (by assumption)
  | exact SqL.of upd_same
  | exact SqT.of (by assumption)
  | exact SqT.of upd_same)
local macro_rules | `(tactic| walk_at "sml") => `(tactic| (rw [sizeLine_eq]; simp))
local macro_rules | `(tactic| walk_at "at") => `(tactic| first | assumption | rfl)
local macro_rules | `(tactic| walk_at "rd") => `(tactic| repeat walk_at "rd1")
local macro_rules | `(tactic| walk_at "rd1") => `(tactic| first
  | with_reducible refine r_addS ?_
  | with_reducible refine r_lenS ?_
  | with_reducible refine r_eqS ?_
  | with_reducible refine r_neS ?_
  | with_reducible refine r_iES ?_
  | with_reducible refine r_iES1 ?_
  | with_reducible refine r_iEL ?_)
section
variable {w : World} {P : Program} {base : Heap} {K : PySem.W.Frag} {mg : Str → Option Value}
theorem range_find (a c : Int) : ∀ m : Nat, ((List.range m).map fun i : Nat => a + (i : Int)).find? (fun x => decide (x ≥ c)) = if 0 < m ∧ c < a + m then some (max a c) else none
  | 0 => rfl
  | m + 1 => by
    rw [List.range_succ, List.map_append, List.find?_append, range_find a c m]
    by_cases h1 : 0 < m ∧ c < a + m
    · rw [if_pos h1, if_pos ⟨by omega, by omega⟩]; rfl
    · rw [if_neg h1]
      by_cases h2 : a + (m : Int) ≥ c
      · rw [if_pos ⟨by omega, by omega⟩]
        simp only [List.map_cons, List.map_nil, Option.none_or]
        rw [List.find?_cons_of_pos (by simpa using h2)]
        congr 1
        omega
      · rw [if_neg (by omega)]
        simp only [List.map_cons, List.map_nil, Option.none_or]
        rw [List.find?_cons_of_neg (by simpa using h2)]
        rfl
def okAt (ln c : Int) (g : Int × Int) : Bool := decide (max g.1 c + ln ≤ g.1 + g.2)
theorem places_first {ln c : Int} : ∀ gs : List (Int × Int), (placesF gs ln).find? (fun x => decide (x ≥ c)) = ((wideF gs ln).find? (okAt ln c)).map (fun g => max g.1 c) ∧ (placesF gs ln).head? = (wideF gs ln).head?.map (·.1)
  | [] => ⟨rfl, rfl⟩
  | g :: gs => by
    obtain ⟨ih1, ih2⟩ := places_first gs
    have e : placesF (g :: gs) ln = ((List.range (g.2 - ln + 1).toNat).map fun i : Nat => g.1 + (i : Int)) ++ placesF gs ln := by
      unfold placesF
      rw [List.flatMap_cons]
    rw [e, List.find?_append, range_find, ih1]
    by_cases w : g.2 ≥ ln
    · have ew : wideF (g :: gs) ln = g :: wideF gs ln := List.filter_cons_of_pos (by simpa using w)
      obtain ⟨m, hm⟩ : ∃ m, (g.2 - ln + 1).toNat = m + 1 := ⟨(g.2 - ln).toNat, by omega⟩
      rw [ew]
      constructor
      · by_cases q : okAt ln c g = true
        · have q' := of_decide_eq_true q
          rw [List.find?_cons_of_pos q, if_pos ⟨by omega, by omega⟩]
          rfl
        · have q' : ¬ max g.1 c + ln ≤ g.1 + g.2 := fun z => q (decide_eq_true z)
          rw [List.find?_cons_of_neg q, if_neg (by omega)]
          rfl
      · rw [hm, List.range_succ_eq_map]
        simp
    · have ew : wideF (g :: gs) ln = wideF gs ln := List.filter_cons_of_neg (by simpa using w)
      rw [ew, show (g.2 - ln + 1).toNat = 0 by omega]
      exact ⟨by simp, by simpa using ih2⟩
theorem due_next (gs : List (Int × Int)) (ln c : Int) : dueF gs ln 3 c = (((wideF gs ln).find? (okAt ln c)).map (fun g => max g.1 c)).or ((wideF gs ln).head?.map (·.1)) := by
  unfold dueF firstF
  rw [if_pos rfl, (places_first (ln := ln) (c := c) gs).1, (places_first (ln := ln) (c := c) gs).2]
def curIx (gs : List (Int × Int)) : Nat → Nat → Nat
  | 1, i => argBest (fun a b => decide (keyOf gs a < keyOf gs b)) (i - 1)
  | 2, i => argBest (fun a b => decide (keyOf gs a > keyOf gs b)) (i - 1)
  | _, _ => 0
theorem curIx_end (gs : List (Int × Int)) (p : Nat) : chosenIx gs p = curIx gs p gs.length := by
  match p with
  | 0 => rfl
  | 1 => rfl
  | 2 => rfl
  | p + 3 => rfl
theorem cur_zero (gs : List (Int × Int)) (p : Nat) : curIx gs p 0 = 0 := by
  match p with
  | 0 => rfl
  | 1 => rfl
  | 2 => rfl
  | p + 3 => rfl
theorem cur_min (gs : List (Int × Int)) (i : Nat) : curIx gs 1 (i + 1) = if keyOf gs i < keyOf gs (curIx gs 1 i) then i else curIx gs 1 i := by
  cases i with
  | zero => simp [curIx, argBest]
  | succ i => simp [curIx, argBest]
theorem cur_max (gs : List (Int × Int)) (i : Nat) : curIx gs 2 (i + 1) = if keyOf gs i > keyOf gs (curIx gs 2 i) then i else curIx gs 2 i := by
  cases i with
  | zero => simp [curIx, argBest]
  | succ i => simp [curIx, argBest]
def sp_due : Sp := fun vs H Q _ => ∃ (a : Addr) (ln c : Int) (p : Nat) (gs : List (Int × Int)), vs = [.ref a, .int ln, .str (polS p), .int c] ∧ p ≤ 3 ∧ LT bV H a gs ∧ gs.length ≤ 900 ∧ ∀ H' : Hp, Same H H' → Q (optV (dueF gs ln p c)) H'
theorem mk_law_due {f : Addr} {fd : FuncData} (T : Txt mg) (F : Fun K "_law_due" "_law_due" s_law_due f fd) (m : mg "_law_due" = some (.ref f)) (b : Binds K fd ["runs", "length", "policy", "cursor"] []) :
    Cal P w K mg base "_law_due" 1 f fd ["runs", "length", "policy", "cursor"] sp_due := by
  refine ⟨F.ok sc_law_due (fun vs H Q E h => ?_) (fun cdv A outer s H vs Q E hr h => ?_), m, F.kp, b⟩
  · obtain ⟨a, ln, c, p, gs, rfl, _⟩ := h
    rfl
  obtain ⟨a, ln, c, p, gs, rfl, hp, ⟨ts, hts, hT⟩, hlen, q⟩ := h
  refine ⟨_, (pss_cons (ps_set (i := 4) sc_law_due.nd rfl (Or.inl rfl) (pe_lst pa_nil)) (pss_cons (ps_for PassesOwn.never rfl (pi_list (pv 0)) (pg_name (i := 5) sc_law_due.nd rfl (Or.inl rfl))
      (pss_one (ps_if (pt_cmpR op_ge (pe_ix (show IxR _ (rIxT K) from ix_tup) (pv 5) pe_int (fun _ _ => rfl)) (pv 1) (nomark _))
      (pss_one (ps_expr (pe_bm PySem.F.plainAttrs_list PySem.F.slot_list_append PySem.F.type_list_append mt_append (pv 4) (pa_cons (pv 5) pa_nil))))
      pss_nil))) (pss_cons (ps_if (pt_cmpR op_eq (pe_callB (show CallR _ _ (fun xs H Q => ∃ p ys, xs = [V.ref p] ∧ (SqL K H p ys ∨ SqT K H p ys) ∧ Q (.int ys.length) H) from call_len_seq) (by rfl) T.len PySem.boot_len (pa_cons (pv 4) pa_nil)) pe_int (nomark _))
      (pss_one (ps_ret pe_non))
      pss_nil) (pss_cons (ps_if (pt_cmpR op_eq (pv 2) pe_str (nomark _))
      (pss_cons (ps_for PassesOwn.never rfl (pi_list (pv 4)) (pg_name (i := 5) sc_law_due.nd rfl (Or.inl rfl))
      (pss_cons (ps_set (i := 6) sc_law_due.nd rfl (Or.inl rfl) (pe_callB (call_max2 rfl) (by rfl) T.max (by decide +kernel) (pa_cons (pe_ix (show IxR _ (rIxT K) from ix_tup) (pv 5) pe_int (fun _ _ => rfl)) (pa_cons (pv 3) pa_nil)))) (pss_one (ps_if (pt_cmpR op_le (pe_op op_add (pv 6) (pv 1)) (pe_op op_add (pe_ix (show IxR _ (rIxT K) from ix_tup) (pv 5) pe_int (fun _ _ => rfl)) (pe_ix (show IxR _ (rIxT K) from ix_tup) (pv 5) pe_int (fun _ _ => rfl))) (nomark _))
      (pss_one (ps_ret (pv 6)))
      pss_nil)))) (pss_one (ps_ret (pe_ix (show IxR _ (rIxT K) from ix_tup) (pe_ix (show IxR _ (rIxL K) from ix_list) (pv 4) pe_int (fun _ _ => rfl)) pe_int (fun _ _ => rfl)))))
      pss_nil) (pss_cons (ps_set (i := 7) sc_law_due.nd rfl (Or.inl rfl) (pe_ix (show IxR _ (rIxL K) from ix_list) (pv 4) pe_int (fun _ _ => rfl))) (pss_cons (ps_for PassesOwn.never rfl (pi_list (pv 4)) (pg_name (i := 5) sc_law_due.nd rfl (Or.inl rfl))
      (pss_cons (ps_if (PW.pt (pw_and (pt_cmpR op_eq (pv 2) pe_str (nomark _)) (pw_and1 (pt_cmpR op_lt (pe_ix (show IxR _ (rIxT K) from ix_tup) (pv 5) pe_int (fun _ _ => rfl)) (pe_ix (show IxR _ (rIxT K) from ix_tup) (pv 7) pe_int (fun _ _ => rfl)) (nomark _)))))
      (pss_one (ps_set (i := 7) sc_law_due.nd rfl (Or.inl rfl) (pv 5)))
      pss_nil) (pss_one (ps_if (PW.pt (pw_and (pt_cmpR op_eq (pv 2) pe_str (nomark _)) (pw_and1 (pt_cmpR op_gt (pe_ix (show IxR _ (rIxT K) from ix_tup) (pv 5) pe_int (fun _ _ => rfl)) (pe_ix (show IxR _ (rIxT K) from ix_tup) (pv 7) pe_int (fun _ _ => rfl)) (nomark _)))))
      (pss_one (ps_set (i := 7) sc_law_due.nd rfl (Or.inl rfl) (pv 5)))
      pss_nil)))) (pss_one (ps_ret (pe_ix (show IxR _ (rIxT K) from ix_tup) (pv 7) pe_int (fun _ _ => rfl)))))))))), ?_⟩
  try dsimp only [cxOf, Cx.nox, Cx.wish]
  rw [show start ["runs", "length", "policy", "cursor", "found", "run", "start", "best"] [V.ref a, V.int ln, V.str (polS p), V.int c] = [some (V.ref a), some (V.int ln), some (V.str (polS p)), some (V.int c), none, none, none, none] from rfl]
  walk_at "rd"
  refine ⟨by walk_at "sml", fun D nD => ?_⟩
  refine upd_new nD fun H1 hD1 s1 => ?_
  walk_at "rd"
  refine r_iL2 (SqL.of (s1 _ _ hts)) ?_
  refine for_list (K := K) (a := a) (xs := ts.map V.ref) (fun i σ H' => ∃ (x5 : Option V) (us : List Addr), σ = [some (.ref a), some (.int ln), some (.str (polS p)), some (.int c), some (.ref D), x5, none, none] ∧ Same H H' ∧ H' D = some (.lst (us.map V.ref)) ∧ TL bV H' us (wideF (gs.take i) ln) ∧ us.length ≤ i)
    ⟨none, [], rfl, s1, hD1, .nil, Nat.le_refl _⟩ (fun i σ H' _ ⟨_, _, _, z, _⟩ => SqL.of (z _ _ hts)) ?_ ?_
  · rintro i x σ H2 hx ⟨x5, us, rfl, s2, hD, hU, hul⟩
    rw [List.getElem?_map] at hx
    obtain ⟨t, et, rfl⟩ := Option.map_eq_some_iff.mp hx
    obtain ⟨g, eg, tup⟩ := hT.2 i t et
    have hi : i < ts.length := by
      by_cases z : i < ts.length
      · exact z
      · rw [List.getElem?_eq_none (by omega)] at et; cases et
    have hTl := hT.1
    have step : wideF (gs.take (i + 1)) ln = wideF (gs.take i) ln ++ (if decide (g.2 ≥ ln) = true then [g] else []) := by
      unfold wideF
      rw [List.take_add_one, eg, List.filter_append, Option.toList_some, List.filter_cons, List.filter_nil]
    have at_1 := SqT.of (K := K) (s2 _ _ tup)
    walk_at "rd"
    refine r_ite (fun c2 => ?_) (fun c2 => ?_)
    · walk_at "rd"
      refine ⟨ty_lst hD, ?_⟩
      walk_at "rd"
      refine r_app hD (by rw [List.length_map, sizeLine_eq]; omega) fun H3 hD3 u3 => ?_
      walk_at "rd"
      refine ⟨_, us ++ [t], rfl, u3.new nD s2, by rw [hD3, List.map_append]; rfl, ?_, by simp; omega⟩
      rw [step, if_pos (decide_eq_true c2)]
      exact (hU.but u3 hD).snoc (u3 _ _ (ne_of (s2 _ _ tup) hD (by intro z; cases z)) (s2 _ _ tup))
    · walk_at "rd"
      refine ⟨_, us, rfl, s2, hD, ?_, by omega⟩
      rw [step, if_neg (by rw [decide_eq_false c2]; decide), List.append_nil]
      exact hU
  · rintro σ H2 ⟨x5, us, rfl, s2, hD, hU, hul⟩
    rw [List.length_map, hT.1, List.take_length] at hU
    obtain ⟨W, hW⟩ : ∃ W, wideF gs ln = W := ⟨_, rfl⟩
    rw [hW] at hU
    have hUl := hU.1
    dsimp only
    refine r_seq ?_
    walk_at "rd"
    rw [List.length_map, hUl]
    refine r_ite (fun c1 => ?_) (fun c1 => ?_)
    · walk_at "rd"
      have z := q H2 s2
      have e : dueF gs ln p c = none := by
        obtain rfl : W = [] := List.eq_nil_of_length_eq_zero (by omega)
        by_cases p3 : p = 3
        · rw [p3, due_next, hW]; rfl
        · unfold dueF; rw [if_neg p3, hW]; rfl
      rw [e] at z
      exact z
    have ne : W ≠ [] := fun z => c1 (by rw [z]; rfl)
    have une : us ≠ [] := fun z => ne (List.eq_nil_of_length_eq_zero (by rw [← hUl, z]; rfl))
    obtain ⟨u0, ur, eu⟩ := List.exists_cons_of_ne_nil une
    obtain ⟨g0, eg0, tup0⟩ := hU.2 0 u0 (by rw [eu]; rfl)
    have at_0 : atI (us.map V.ref) 0 = some (.ref u0) := (show atI _ ((0 : Nat) : Int) = _ from at_nat (by rw [eu]; rfl))
    have hn : decide (polS p = Str.ofString "next") = decide (p = 3) := match p, hp with
      | 0, _ => by decide +kernel
      | 1, _ => by decide +kernel
      | 2, _ => by decide +kernel
      | 3, _ => by decide +kernel
    have hb : decide (polS p = Str.ofString "best") = decide (p = 1) := match p, hp with
      | 0, _ => by decide +kernel
      | 1, _ => by decide +kernel
      | 2, _ => by decide +kernel
      | 3, _ => by decide +kernel
    have hw : decide (polS p = Str.ofString "worst") = decide (p = 2) := match p, hp with
      | 0, _ => by decide +kernel
      | 1, _ => by decide +kernel
      | 2, _ => by decide +kernel
      | 3, _ => by decide +kernel
    walk_at "rd"
    refine r_seq ?_
    walk_at "rd"
    rw [hn]
    refine r_ite (fun c2 => ?_) (fun c2 => ?_)
    · walk_at "rd"
      refine r_iL2 (SqL.of hD) ?_
      refine for_list (K := K) (a := D) (xs := us.map V.ref) (fun i σ H' => ∃ (x5 x6 : Option V), σ = [some (.ref a), some (.int ln), some (.str (polS p)), some (.int c), some (.ref D), x5, x6, none] ∧ H' = H2 ∧ W.find? (okAt ln c) = (W.drop i).find? (okAt ln c))
        ⟨_, none, rfl, rfl, rfl⟩ (fun i σ H' _ ⟨_, _, _, z, _⟩ => z ▸ SqL.of hD) ?_ ?_
      · rintro i x σ H3 hx ⟨x5, x6, rfl, rfl, hf⟩
        rw [List.getElem?_map] at hx
        obtain ⟨t, et, rfl⟩ := Option.map_eq_some_iff.mp hx
        obtain ⟨g, eg, tup⟩ := hU.2 i t et
        have at_1 := SqT.of (K := K) tup
        rw [drop_get eg] at hf
        have em : (if c > g.1 then c else g.1) = max g.1 c := by split <;> omega
        walk_at "rd"
        rw [em]
        refine r_ite (fun c3 => ?_) (fun c3 => ?_)
        · walk_at "rd"
          have z := q H3 s2
          rw [c2, due_next, hW, hf, List.find?_cons_of_pos (show okAt ln c g = true from decide_eq_true c3)] at z
          exact z
        · walk_at "rd"
          exact ⟨_, _, rfl, rfl, by rw [hf, List.find?_cons_of_neg (by unfold okAt; rw [decide_eq_false c3]; decide)]⟩
      · rintro σ H3 ⟨x5, x6, rfl, rfl, hf⟩
        rw [List.length_map, hUl, List.drop_length] at hf
        dsimp only
        walk_at "rd"
        have z := q H3 s2
        rw [c2, due_next, hW, hf] at z
        obtain ⟨w0, wr, ew⟩ := List.exists_cons_of_ne_nil ne
        rw [ew] at eg0 z
        obtain rfl : w0 = g0 := Option.some.inj eg0
        exact z
    walk_at "rd"
    refine r_iL2 (SqL.of hD) ?_
    refine for_list (K := K) (a := D) (xs := us.map V.ref) (fun i σ H' => ∃ (x5 : Option V) (t : Addr), σ = [some (.ref a), some (.int ln), some (.str (polS p)), some (.int c), some (.ref D), x5, none, some (.ref t)] ∧ H' = H2 ∧ us[curIx W p i]? = some t)
      ⟨_, u0, rfl, rfl, by rw [cur_zero, eu]; rfl⟩ (fun i σ H' _ ⟨_, _, _, z, _⟩ => z ▸ SqL.of hD) ?_ ?_
    · rintro i x σ H3 hx ⟨x5, tb, rfl, rfl, hcur⟩
      rw [List.getElem?_map] at hx
      obtain ⟨t, et, rfl⟩ := Option.map_eq_some_iff.mp hx
      obtain ⟨g, eg, tup⟩ := hU.2 i t et
      obtain ⟨gb, egb, tupb⟩ := hU.2 _ tb hcur
      have at_1 := SqT.of (K := K) tup
      have at_2 := SqT.of (K := K) tupb
      have k1 : keyOf W i = g.2 := by unfold keyOf; rw [List.getD_eq_getElem?_getD, eg]; rfl
      have k2 : keyOf W (curIx W p i) = gb.2 := by unfold keyOf; rw [List.getD_eq_getElem?_getD, egb]; rfl
      refine r_name ?_
      dsimp only [List.set_cons_succ, List.set_cons_zero]
      refine r_seq ?_
      walk_at "rd"
      rw [hb]
      refine r_ite (fun p1 => ?_) (fun p1 => ?_)
      · subst p1
        walk_at "rd"
        refine r_ite (fun c4 => ?_) (fun c4 => ?_)
        · walk_at "rd"
          rw [hw]
          refine r_ite (fun z => absurd z (by decide)) (fun _ => ?_)
          walk_at "rd"
          exact ⟨_, t, rfl, rfl, by rw [cur_min, k1, k2, if_pos c4]; exact et⟩
        · walk_at "rd"
          rw [hw]
          refine r_ite (fun z => absurd z (by decide)) (fun _ => ?_)
          walk_at "rd"
          exact ⟨_, tb, rfl, rfl, by rw [cur_min, k1, k2, if_neg c4]; exact hcur⟩
      · walk_at "rd"
        rw [hw]
        refine r_ite (fun p2 => ?_) (fun p2 => ?_)
        · subst p2
          walk_at "rd"
          refine r_ite (fun c4 => ?_) (fun c4 => ?_)
          · walk_at "rd"
            exact ⟨_, t, rfl, rfl, by rw [cur_max, k1, k2, if_pos c4]; exact et⟩
          · walk_at "rd"
            exact ⟨_, tb, rfl, rfl, by rw [cur_max, k1, k2, if_neg c4]; exact hcur⟩
        · walk_at "rd"
          obtain rfl : p = 0 := by omega
          exact ⟨_, tb, rfl, rfl, hcur⟩
    · rintro σ H3 ⟨x5, t, rfl, rfl, hcur⟩
      rw [List.length_map, hUl, ← curIx_end] at hcur
      obtain ⟨g, eg, tup⟩ := hU.2 _ t hcur
      dsimp only
      walk_at "rd"
      have z := q H3 s2
      unfold dueF at z
      rw [if_neg c2, hW, eg] at z
      exact z
end
end Pf

namespace Pf
open PySem L2
local macro_rules | `(tactic| walk_at "rd1") => `(tactic| first
  | with_reducible refine r_seqA ?_
  | with_reducible refine r_seqD ?_
  | with_reducible refine r_seqF ?_
  | with_reducible refine r_seqN ?_
  | with_reducible refine r_asg ?_
  | with_reducible refine r_drop ?_
  | with_reducible refine r_ret ?_
  | with_reducible refine r_ifS ?_
  | ((with_reducible refine r_next ?_); try dsimp only)
  | ((with_reducible refine r_name ?_); try dsimp only [List.set_cons_succ, List.set_cons_zero, wipe])
  | ((with_reducible refine' r_var ?rdh ?_); (case rdh => rfl))
  | with_reducible refine r_c ?_
  | with_reducible refine r_op ?_
  | with_reducible refine r_un ?_
  | with_reducible refine r_I0 ?_
  | ((with_reducible refine r_I ?_ ?_); (· first | decide | exact Or.inl (by decide) | exact Or.inr (by decide) | (show _ ∧ _; constructor <;> decide) | (show (0:Int) < _; omega) | (show CDiv _ _; unfold CDiv; omega) ))
  | with_reducible refine r_U ?_
  | with_reducible refine r_eqI ?_
  | with_reducible refine r_neI ?_
  | with_reducible refine r_eqB ?_
  | with_reducible refine r_neB ?_
  | with_reducible refine r_test ?_
  | with_reducible refine r_B ?_
  | with_reducible refine r_bl ?_
  | with_reducible refine r_bl2 ?_
  | with_reducible refine r_yes ?_
  | with_reducible refine r_wipe (by rfl) ?_
  | with_reducible refine r_rfl ?_
  | ((with_reducible refine' r_eqA ?rdh ?_); (case rdh => rfl))
  | with_reducible refine r_and ?_
  | with_reducible refine r_or ?_
  | with_reducible refine r_not ?_
  | with_reducible refine r_andV ?_
  | with_reducible refine r_orV ?_
  | with_reducible refine r_notV ?_
  | with_reducible refine r_ifE ?_
  | with_reducible refine r_nil ?_
  | with_reducible refine r_cons ?_
  | with_reducible refine r_tup ?_
  | with_reducible refine r_lst ?_
  | with_reducible refine r_CB ?_
  | with_reducible refine r_call ?_
  | with_reducible refine r_bm ?_
  | with_reducible refine r_bm0 ?_
  | with_reducible refine r_int ?_
  | with_reducible refine r_i2 ?_
  | with_reducible refine r_i1 ?_
  | with_reducible refine r_gcons ?_
  | with_reducible refine r_gnil ?_
  | with_reducible refine r_gsub ?_
  | with_reducible refine iteT ?_
  | with_reducible refine iteF ?_
  | with_reducible refine ite_notT ?_
  | with_reducible refine ite_notF ?_
  | with_reducible refine r_isi_ib ?_
  | with_reducible refine r_isi_ii ?_
  | with_reducible refine r_isi_bb ?_
  | with_reducible refine r_isi_nb ?_
  | with_reducible refine r_isi_nt ?_
  | ((with_reducible refine' r_isi_ll ?rdh ?_); (case rdh => first | assumption | exact upd_same))
  | ((with_reducible refine' r_isi_tt ?rdh ?_); (case rdh => first | assumption | exact upd_same))
  | with_reducible refine r_sl ?_
  | with_reducible refine r_noPart ?_
  | with_reducible refine r_part ?_
  | with_reducible refine r_int1 ?_
  | with_reducible refine r_tru ?_
  | with_reducible refine r_ckw ?_
  | with_reducible refine r_lc ?_
  | with_reducible refine r_lc2 ?_
  | with_reducible refine r_forS ?_
  | with_reducible refine r_iR1 ?_
  | with_reducible refine r_iR2 ?_
  | with_reducible refine r_iL ?_
  | ((with_reducible refine' r_lenL ?rdh ?_); (case rdh => walk_at "sq"))
  | ((with_reducible refine' r_ixL ?rdh ?rda ?_); (case rdh => walk_at "sq"); (case rda => walk_at "at"))
  | ((with_reducible refine' r_ixT ?rdh ?rda ?_); (case rdh => walk_at "sq"); (case rda => walk_at "at")))
local macro_rules | `(tactic| walk_at "sq") => `(tactic| first
  | assumption
  | exact SqL.of (by assumption)
  | exact SqL.of upd_same
  | exact SqT.of (by assumption)
  | exact SqT.of upd_same)
local macro_rules | `(tactic| walk_at "sml") => `(tactic| (rw [sizeLine_eq]; simp))
local macro_rules | `(tactic| walk_at "at") => `(tactic| first | assumption | rfl)
local macro_rules | `(tactic| walk_at "rd") => `(tactic| repeat walk_at "rd1")
local macro_rules | `(tactic| walk_at "rd1") => `(tactic| first
  | with_reducible refine r_addS ?_
  | with_reducible refine r_lenS ?_
  | with_reducible refine r_eqS ?_
  | with_reducible refine r_neS ?_
  | with_reducible refine r_iES ?_
  | with_reducible refine r_iES1 ?_
  | with_reducible refine r_iEL ?_)
section
variable {w : World} {P : Program} {base : Heap} {K : PySem.W.Frag} {mg : Str → Option Value}
theorem dp_opt {H : Hp} : ∀ o : Option Int, ∃ d, Dp K H (optV o) d ∧ SeqAt.shaped d = true
  | none => ⟨.none, .non, by decide⟩
  | some i => ⟨_, is_int (K := K) (H := H) (i := i), shapedE (by decide) i⟩
theorem isi_opt {H : Hp} {Q : VK} : ∀ o : Option Int, Q (.bl false) H → rIsi K [optV o, .ty "bool"] H Q
  | none, q => r_isi_nb q
  | some i, q => r_isi_ib q
theorem TL.ext {α : Type} {f : α → List V} {H H' : Hp} {ts : List Addr} {xs : List α} (h : TL f H ts xs) (e : LamX.ExtN H H') : TL f H' ts xs := ⟨h.1, fun i t at_ => let ⟨x, e1, e2⟩ := h.2 i t at_; ⟨x, e1, e _ _ e2 (by intro ps z; cases z)⟩⟩
theorem LT.ext {α : Type} {f : α → List V} {H H' : Hp} {a : Addr} {xs : List α} (h : LT f H a xs) (e : LamX.ExtN H H') : LT f H' a xs := let ⟨ts, z, q⟩ := h; ⟨ts, e _ _ z (by intro ps y; cases y), q.ext e⟩
theorem Bx.ext {H H' : Hp} {b d : Addr} (h : Bx H b d) (e : LamX.ExtN H H') : Bx H' b d := let ⟨ds, k, e1, e2, n⟩ := h; ⟨ds, k, e _ _ e1 (by intro ps y; cases y), e _ _ e2 (by intro ps y; cases y), n⟩
theorem tabs_but {P b : Addr} {H H' : Hp} {xs : List V} (t : LamX.Tabs (TT P) H) (e : But b H H') (hb : H b = some (.lst xs)) : LamX.Tabs (TT P) H' := fun p hp => by
  obtain ⟨ps, h1, h2, h3⟩ := t p hp
  refine ⟨ps, e _ _ (ne_of h1 hb (by intro z; cases z)) h1, h2, fun pos cv hc => ?_⟩
  obtain ⟨c, e1, e2⟩ := h3 pos cv hc
  exact ⟨c, e1, e _ _ (ne_of e2 hb (by intro z; unfold LamX.CodeO at z; cases z)) e2⟩
theorem due_zero {gs : List (Int × Int)} {ln : Int} (h : ∀ g ∈ gs, 0 ≤ g.1) : dueF gs ln 3 0 = dueF gs ln 0 0 := by
  rw [due_next]
  unfold dueF
  rw [if_neg (by decide)]
  cases e : wideF gs ln with
  | nil => rfl
  | cons g r =>
    have mem : g ∈ wideF gs ln := by rw [e]; exact List.mem_cons_self
    obtain ⟨m1, m2⟩ := List.mem_filter.mp mem
    have h0 := h g m1
    have hw := of_decide_eq_true m2
    rw [List.find?_cons_of_pos (show okAt ln 0 g = true from decide_eq_true (by omega))]
    show some (max g.1 0) = some g.1
    congr 1
    omega
theorem pols_at {i : Nat} {x : V} (h : [V.str "first", V.str "best", V.str "worst", V.str "next"][i]? = some x) : i ≤ 3 ∧ x = .str (polS i) := by
  match i, h with
  | 0, h => cases h; exact ⟨by decide, rfl⟩
  | 1, h => cases h; exact ⟨by decide, rfl⟩
  | 2, h => cases h; exact ⟨by decide, rfl⟩
  | 3, h => cases h; exact ⟨by decide, rfl⟩
def sp_law (K : PySem.W.Frag) (P : Addr) : Sp := fun vs H Q _ => ∃ (a : Addr) (ns : List Int), vs = [.ref a] ∧ SqL K H a (ns.map V.int) ∧ ns.length ≤ 63 ∧ H P = some (.tbl #[]) ∧ ∀ H', Q (.bl true) H'
theorem mk_law {f f1 f2 f3 f4 f5 f6 f7 Pt : Addr} {fd fd1 fd2 fd3 fd4 fd5 fd6 fd7 : FuncData} {ds4 : List Value} (T : Txt mg) (F : Fun K "law" "law" s_law f fd)
    (C_law_digits : Cal P w K mg base "_law_digits" 2 f1 fd1 ["script", "first", "last"] (sp_digits K))
    (C_law_draw : Cal P w K mg base "_law_draw" 1 f2 fd2 ["box", "many"] sp_draw)
    (C_law_blocks : Cal P w K mg base "_law_blocks" 2 f3 fd3 ["box", "size", "most"] sp_blocks)
    (C_law_cells : Cal P w K mg base "_law_cells" 1 f4 fd4 ["size", "blocks"] sp_cells)
    (C_law_runs : Cal P w K mg base "_law_runs" 1 f5 fd5 ["cells"] (sp_runs K))
    (C_place_block : CalD P w K mg base "place_block" 3 f6 fd6 ["size", "layout", "length", "policy", "cursor"] ds4 [.int 0] (sp_place Pt))
    (C_law_due : Cal P w K mg base "_law_due" 1 f7 fd7 ["runs", "length", "policy", "cursor"] sp_due) : FnOk P w K mg base CX0 5 f fd ["script"] (sp_law K Pt) := by
  refine F.ok sc_law (fun vs H Q E h => ?_) (fun cdv A outer s H vs Q E hr h => ?_)
  · obtain ⟨a, ns, rfl, _⟩ := h
    rfl
  obtain ⟨a, ns, rfl, hS, h63, hP, q⟩ := h
  refine ⟨_, (pss_cons (ps_set (i := 1) sc_law.nd rfl (Or.inl rfl) (pe_lst (pa_cons (pe_call C_law_digits.ok (hr.mono (by first | decide | omega)) rfl C_law_digits.mg C_law_digits.kp C_law_digits.b .nil pass0 (pa_cons (pv 0) (pa_cons pe_int (pa_cons pe_int pa_nil)))) (pa_cons pe_int pa_nil)))) (pss_cons (ps_set (i := 2) sc_law.nd rfl (Or.inl rfl) (pe_op op_add pe_int (pe_call C_law_draw.ok (hr.mono (by first | decide | omega)) rfl C_law_draw.mg C_law_draw.kp C_law_draw.b .nil pass0 (pa_cons (pv 1) (pa_cons pe_int pa_nil))))) (pss_cons (ps_set (i := 3) sc_law.nd rfl (Or.inl rfl) (pe_call C_law_blocks.ok (hr.mono (by first | decide | omega)) rfl C_law_blocks.mg C_law_blocks.kp C_law_blocks.b .nil pass0 (pa_cons (pv 1) (pa_cons (pv 2) (pa_cons pe_int pa_nil))))) (pss_cons (show PS _ _ (tAsg (tLc _ _ _ _ [5]) _) from ps_setLc (i := 4) (own := [("block", 5)]) (g := gName 5) (tt := tYes) rfl sc_law.nd rfl rfl (sw_true rfl rfl rfl (by decide +kernel)) (pi_list (pv 3)) (blkOk_by (own := [("block", 5)]) (N := ["script", "box", "size", "layout", "kept", "block", "runs", "length", "cursor", "policy", "actual"]) (sc := defScope s_law) (by decide +kernel)) (fun _ _ _ _ _ => (pg_name (i := 5) sc_law.nd rfl (Or.inl rfl))) (fun _ _ _ _ _ => pts_nil) (fun _ _ _ _ _ => (pv 5))) (pss_cons (ps_set (i := 6) sc_law.nd rfl (Or.inl rfl) (pe_call C_law_runs.ok (hr.mono (by first | decide | omega)) rfl C_law_runs.mg C_law_runs.kp C_law_runs.b .nil pass0 (pa_cons (pe_call C_law_cells.ok (hr.mono (by first | decide | omega)) rfl C_law_cells.mg C_law_cells.kp C_law_cells.b .nil pass0 (pa_cons (pv 2) (pa_cons (pv 3) pa_nil))) pa_nil))) (pss_cons (ps_for PassesOwn.never rfl (pi_range2 rfl T.range (pa_cons pe_int (pa_cons pe_int pa_nil))) (pg_name (i := 7) sc_law.nd rfl (Or.inl rfl))
      (pss_cons (ps_set (i := 8) sc_law.nd rfl (Or.inl rfl) (pe_call C_law_draw.ok (hr.mono (by first | decide | omega)) rfl C_law_draw.mg C_law_draw.kp C_law_draw.b .nil pass0 (pa_cons (pv 1) (pa_cons (pe_op op_add (pv 2) pe_int) pa_nil)))) (pss_cons (ps_for PassesOwn.never rfl (pi_list (pe_lst (pa_cons pe_str (pa_cons pe_str (pa_cons pe_str (pa_cons pe_str pa_nil)))))) (pg_name (i := 9) sc_law.nd rfl (Or.inl rfl))
      (pss_cons (ps_set (i := 10) sc_law.nd rfl (Or.inl rfl) (pe_call C_place_block.ok (hr.mono (by first | decide | omega)) rfl C_place_block.mg C_place_block.kp C_place_block.b .nil pass0 (pa_cons (pv 2) (pa_cons (pv 3) (pa_cons (pv 7) (pa_cons (pv 9) (pa_cons (pv 8) pa_nil))))))) (pss_one (ps_if (PW.pt (pw_or (pt_cmpR (show OpR _ _ (rNeD K) from op_neD hr.units) (pv 10) (pe_call C_law_due.ok (hr.mono (by first | decide | omega)) rfl C_law_due.mg C_law_due.kp C_law_due.b .nil pass0 (pa_cons (pv 6) (pa_cons (pv 7) (pa_cons (pv 9) (pa_cons (pv 8) pa_nil))))) (nomark _)) (pw_or1 (pt_val (pe_callB (show CallR _ _ (rIsi K) from call_isi) (by rfl) T.isinstance (by decide +kernel) (pa_cons (pv 10) (pa_cons (pe_bltn (v := .ty "bool") (u := .type "bool") rfl T.bool (by decide +kernel) rfl) pa_nil)))))))
      (pss_one (ps_ret pe_bl))
      pss_nil)))) (pss_one (ps_if (pt_cmpR (show OpR _ _ (rNeD K) from op_neD hr.units) (pe_call C_place_block.ok (hr.mono (by first | decide | omega)) rfl C_place_block.mg C_place_block.kp C_place_block.b4 C_place_block.d4 pass0 (pa_cons (pv 2) (pa_cons (pv 3) (pa_cons (pv 7) (pa_cons pe_str pa_nil))))) (pe_call C_law_due.ok (hr.mono (by first | decide | omega)) rfl C_law_due.mg C_law_due.kp C_law_due.b .nil pass0 (pa_cons (pv 6) (pa_cons (pv 7) (pa_cons pe_str (pa_cons pe_int pa_nil))))) (nomark _))
      (pss_one (ps_ret pe_bl))
      pss_nil))))) (pss_one (ps_ret (pe_cmpR (show OpR _ _ (rEqD K) from op_eqD hr.units) (pv 3) (pv 4) (nomark _)))))))))), ?_⟩
  try dsimp only [cxOf, Cx.nox, Cx.wish]
  rw [show start ["script", "box", "size", "layout", "kept", "block", "runs", "length", "cursor", "policy", "actual"] [V.ref a] = [some (V.ref a), none, none, none, none, none, none, none, none, none, none] from rfl]
  walk_at "rd"
  refine ⟨a, ns, 0, 63, rfl, hS, by decide, by decide, fun d ds H1 nd s1 hd hdl => ?_⟩
  walk_at "rd"
  refine ⟨by walk_at "sml", fun b nb => ?_⟩
  refine upd_new nb fun H2 hb s2 => ?_
  have ndb : d ≠ b := ne_of_none hd nb
  have B2 : Bx H2 b d := ⟨ds, 0, hb, s2 _ _ hd, ndb⟩
  have nPb : Pt ≠ b := ne_of_none (s1 _ _ hP) nb
  walk_at "rd"
  refine ⟨b, d, 16, rfl, by decide, B2, fun r1 H3 r10 r11 B3 u3 => ?_⟩
  walk_at "rd"
  refine ⟨b, d, 1 + r1, 6, rfl, by omega, by decide, B3, fun L bs H4 nL B4 u4 hL hv hlen => ?_⟩
  have nLb : L ≠ b := B3.ne nL
  obtain ⟨n, hn⟩ : ∃ n : Nat, 1 + r1 = n := ⟨(1 + r1).toNat, by omega⟩
  rw [hn] at hv
  rw [hn]
  have hP4 := u4 _ _ nPb (u3 _ _ nPb (s2 _ _ (s1 _ _ hP)))
  walk_at "rd"
  obtain ⟨ts, hts, hT⟩ := id hL
  have hl := hT.1
  refine r_iL2 (SqL.of hts) ?_
  intro D nD
  have nDb : D ≠ b := B4.ne nD
  refine w_list (K := K) (a := L) (xs := ts.map V.ref) (fun i H' => H' D = some (.lst ((ts.take i).map V.ref)) ∧ Same H4 H') ⟨upd_same, same_upd nD⟩ (fun i H' _ h => SqL.of (h.2 _ _ hts)) ?_ ?_
  · rintro i x H6 hx ⟨hD, s6⟩
    walk_at "rd"
    refine ⟨_, hD, by rw [List.length_map, List.length_take, sizeLine_eq]; omega, ?_, But.upd.new nD s6⟩
    rw [List.getElem?_map] at hx
    obtain ⟨t, et, rfl⟩ := Option.map_eq_some_iff.mp hx
    rw [upd_same, List.take_add_one, et, List.map_append]
    rfl
  rintro H5 ⟨hD, s5⟩
  rw [List.length_map, List.take_length] at hD
  have hL5 := hL.same s5
  have hK5 : LT bV H5 D bs := ⟨ts, hD, hT.same s5⟩
  walk_at "rd"
  refine ⟨L, n, bs, rfl, by omega, hL5, hv, by omega, fun C cs H6 nC s6 hC hcs => ?_⟩
  have hcl : cs.length = n := by have := hcs.1; omega
  walk_at "rd"
  refine ⟨C, cs, rfl, SqL.of hC, by omega, fun R H7 nR s7 hR => ?_⟩
  have runsE : runsTo (fun i => cs.getD i 0) cs.length = gapsF n 0 bs := by
    rw [hcl]
    have := runs_gaps (c := fun i => cs.getD i 0) (n := n) (bs := bs) (e := 0) (G := []) hv (fun i _ hi => by
      have e := hcs.2 i (by omega)
      show cs.getD i 0 = 0 ↔ _
      rw [List.getD_eq_getElem?_getD]
      rw [e]
      exact cellOf_zero (Int.le_refl 0)) rfl (.inl rfl)
    simpa using this
  rw [runsE] at hR
  have s57 := s6.trans s7
  have B7 := (B4.same s5).same s57
  have nRb : R ≠ b := ((B4.same s5).same s6).ne nR
  have hL7 := hL5.same s57
  have hK7 := hK5.same s57
  have tabs7 : LamX.Tabs (TT Pt) H7 := fun p hp => by
    rw [List.mem_singleton.mp hp]
    exact LamX.TabS.nil (s57 _ _ (s5 _ _ hP4))
  have hgl := gapsF_len n bs 0
  have g0 : ∀ g ∈ gapsF n 0 bs, 0 ≤ g.1 := fun g hg => (gap_in hv g hg).1
  walk_at "rd"
  refine ⟨by decide, ?_⟩
  refine for_range (lo := 1) (n := 5) (fun i σ H' => ∃ x8 x9 x10 x7 : Option V, σ = [some (.ref a), some (.ref b), some (.int n), some (.ref L), some (.ref D), none, some (.ref R), x7, x8, x9, x10] ∧ Bx H' b d ∧ LT bV H' L bs ∧ LT bV H' D bs ∧ LT bV H' R (gapsF n 0 bs) ∧ LamX.Tabs (TT Pt) H')
    ⟨none, none, none, none, rfl, B7, hL7, hK7, hR, tabs7⟩ ?_ ?_
  · rintro i σ H8 hi ⟨x8, x9, x10, x7, rfl, B8, hL8, hK8, hR8, tabs8⟩
    walk_at "rd"
    refine ⟨b, d, n + 1, rfl, by omega, B8, fun c H9 c0 c1 B9 u9 => ?_⟩
    have hL9 := hL8.box u9 B8 nLb
    have hK9 := hK8.box u9 B8 nDb
    have hR9 := hR8.box u9 B8 nRb
    have tabs9 : LamX.Tabs (TT Pt) H9 := let ⟨_, _, z, _⟩ := B8; tabs_but tabs8 u9 z
    walk_at "rd"
    refine ⟨by walk_at "sml", fun U nU => ?_⟩
    refine upd_new nU fun H10 hU s10 => ?_
    refine r_iL2 (SqL.of hU) ?_
    have e10 := LamX.ExtN.of s10
    rw [show (1 : Int) + i = ((i + 1 : Nat) : Int) by omega]
    obtain ⟨ln, hln⟩ : ∃ ln : Nat, ln = i + 1 := ⟨_, rfl⟩
    rw [← hln]
    refine for_list (K := K) (a := U) (xs := [V.str "first", V.str "best", V.str "worst", V.str "next"]) (fun j σ H' => ∃ x9 x10 : Option V, σ = [some (.ref a), some (.ref b), some (.int n), some (.ref L), some (.ref D), none, some (.ref R), some (.int (ln : Nat)), some (.int c), x9, x10] ∧ Bx H' b d ∧ LT bV H' L bs ∧ LT bV H' D bs ∧ LT bV H' R (gapsF n 0 bs) ∧ LamX.Tabs (TT Pt) H' ∧ H' U = some (.lst [V.str "first", V.str "best", V.str "worst", V.str "next"]))
      ⟨x9, x10, rfl, B9.ext e10, hL9.ext e10, hK9.ext e10, hR9.ext e10, tabs9.ext s10, hU⟩ (fun j σ H' _ ⟨_, _, _, _, _, _, _, _, z⟩ => SqL.of z) ?_ ?_
    · rintro j x σ H11 hx ⟨x9, x10, rfl, B11, hL11, hK11, hR11, tabs11, hU11⟩
      obtain ⟨hj, rfl⟩ := pols_at hx
      walk_at "rd"
      refine ⟨L, n, (ln : Nat), c, j, bs, rfl, hj, hL11, by omega, hv, by omega, by omega, by omega, tabs11, fun H12 e12 tabs12 => ?_⟩
      have hR12 := hR11.ext e12
      refine r_name ?_
      dsimp only [List.set_cons_succ, List.set_cons_zero]
      walk_at "rd"
      refine ⟨R, (ln : Nat), c, j, gapsF n 0 bs, rfl, hj, hR12, by omega, fun H13 s13 => ?_⟩
      obtain ⟨dd, dd1, dd2⟩ := dp_opt (K := K) (H := H13) (dueF (gapsF n 0 bs) ln j c)
      refine r_neSame dd1 dd1 dd2 ?_
      walk_at "rd"
      refine isi_opt _ ?_
      walk_at "rd"
      have e13 := e12.trans (LamX.ExtN.of s13)
      exact ⟨_, _, rfl, B11.ext e13, hL11.ext e13, hK11.ext e13, hR11.ext e13, tabs12.ext s13, e13 _ _ hU11 (by intro ps z; cases z)⟩
    · rintro σ H11 ⟨x9, x10, rfl, B11, hL11, hK11, hR11, tabs11, hU11⟩
      dsimp only
      walk_at "rd"
      refine r_callD ?_
      walk_at "rd"
      refine ⟨L, n, (ln : Nat), 0, 3, bs, rfl, by decide, hL11, by omega, hv, by omega, by omega, by omega, tabs11, fun H12 e12 tabs12 => ?_⟩
      walk_at "rd"
      refine ⟨R, (ln : Nat), 0, 0, gapsF n 0 bs, rfl, by decide, hR11.ext e12, by omega, fun H13 s13 => ?_⟩
      rw [due_zero g0]
      obtain ⟨dd, dd1, dd2⟩ := dp_opt (K := K) (H := H13) (dueF (gapsF n 0 bs) ln 0 0)
      refine r_neSame dd1 dd1 dd2 ?_
      walk_at "rd"
      have e13 := e12.trans (LamX.ExtN.of s13)
      exact ⟨_, _, _, _, rfl, B11.ext e13, hL11.ext e13, hK11.ext e13, hR11.ext e13, tabs12.ext s13⟩
  · rintro σ H8 ⟨x8, x9, x10, x7, rfl, B8, hL8, hK8, hR8, tabs8⟩
    walk_at "rd"
    refine r_eqE hL8.is hK8.is (by decide) ?_
    rw [decide_eq_true rfl]
    exact q _
end
theorem all_mk {l : PySem.W.OpenLaw} {w : World} {K : PySem.W.Frag} {h : Heap} {mg : Str → Option Value} {fa f1 f2 f3 f4 f5 f6 f7 f8 f9 f10 f11 f12 f13 : Addr} (X : K.In h) (G : h.Ns mainGlobals mg) (hfa : mg "law" = some (.ref fa))
    {od1 an1 od2 an2 od3 an3 od4 an4 od5 an5 od6 an6 od7 an7 od8 an8 od9 an9 od10 an10 od11 an11 od12 an12 od13 an13 : Option Addr} {sl1 sl2 sl3 sl4 sl5 sl6 sl7 sl8 sl9 sl10 sl11 sl12 sl13 : Array (Option Value)} {oc1 kV1 dc1 pm1 ct1 cd1 oc2 kV2 dc2 pm2 ct2 cd2 oc3 kV3 dc3 pm3 ct3 cd3 oc4 kV4 dc4 pm4 ct4 cd4 oc5 kV5 dc5 pm5 ct5 cd5 oc6 kV6 dc6 pm6 ct6 cd6 oc7 kV7 dc7 pm7 ct7 cd7 oc8 kV8 dc8 pm8 ct8 cd8 oc9 kV9 dc9 pm9 ct9 cd9 oc10 kV10 dc10 pm10 ct10 oc11 kV11 dc11 pm11 ct11 cd11 oc12 kV12 dc12 pm12 ct12 cd12 oc13 kV13 dc13 pm13 ct13 cd13 : Value}
    (a1 : PySem.W.nsIn K mainGlobals "_law_cell" = some (some (.ref f1))) (l1 : K.lookup f1 = some ⟨oc1, od1, .func (PySem.W.fnOf "_law_cell" "_law_cell" (defArgs s_law_cell) (defBody s_law_cell) (defScope s_law_cell) .none kV1 dc1 pm1 an1 cd1 ct1), sl1⟩) (c1 : PySem.W.codeIn K cd1 "_law_cell" = true) (k1 : PySem.W.keepIn K (.ref f1) = true)
    (a2 : PySem.W.nsIn K mainGlobals "_law_digits" = some (some (.ref f2))) (l2 : K.lookup f2 = some ⟨oc2, od2, .func (PySem.W.fnOf "_law_digits" "_law_digits" (defArgs s_law_digits) (defBody s_law_digits) (defScope s_law_digits) .none kV2 dc2 pm2 an2 cd2 ct2), sl2⟩) (c2 : PySem.W.codeIn K cd2 "_law_digits" = true) (k2 : PySem.W.keepIn K (.ref f2) = true)
    (a3 : PySem.W.nsIn K mainGlobals "_law_draw" = some (some (.ref f3))) (l3 : K.lookup f3 = some ⟨oc3, od3, .func (PySem.W.fnOf "_law_draw" "_law_draw" (defArgs s_law_draw) (defBody s_law_draw) (defScope s_law_draw) .none kV3 dc3 pm3 an3 cd3 ct3), sl3⟩) (c3 : PySem.W.codeIn K cd3 "_law_draw" = true) (k3 : PySem.W.keepIn K (.ref f3) = true)
    (a4 : PySem.W.nsIn K mainGlobals "_law_blocks" = some (some (.ref f4))) (l4 : K.lookup f4 = some ⟨oc4, od4, .func (PySem.W.fnOf "_law_blocks" "_law_blocks" (defArgs s_law_blocks) (defBody s_law_blocks) (defScope s_law_blocks) .none kV4 dc4 pm4 an4 cd4 ct4), sl4⟩) (c4 : PySem.W.codeIn K cd4 "_law_blocks" = true) (k4 : PySem.W.keepIn K (.ref f4) = true)
    (a5 : PySem.W.nsIn K mainGlobals "_law_cells" = some (some (.ref f5))) (l5 : K.lookup f5 = some ⟨oc5, od5, .func (PySem.W.fnOf "_law_cells" "_law_cells" (defArgs s_law_cells) (defBody s_law_cells) (defScope s_law_cells) .none kV5 dc5 pm5 an5 cd5 ct5), sl5⟩) (c5 : PySem.W.codeIn K cd5 "_law_cells" = true) (k5 : PySem.W.keepIn K (.ref f5) = true)
    (a6 : PySem.W.nsIn K mainGlobals "_law_runs" = some (some (.ref f6))) (l6 : K.lookup f6 = some ⟨oc6, od6, .func (PySem.W.fnOf "_law_runs" "_law_runs" (defArgs s_law_runs) (defBody s_law_runs) (defScope s_law_runs) .none kV6 dc6 pm6 an6 cd6 ct6), sl6⟩) (c6 : PySem.W.codeIn K cd6 "_law_runs" = true) (k6 : PySem.W.keepIn K (.ref f6) = true)
    (a7 : PySem.W.nsIn K mainGlobals "gaps" = some (some (.ref f7))) (l7 : K.lookup f7 = some ⟨oc7, od7, .func (PySem.W.fnOf "gaps" "gaps" (defArgs s_gaps) (defBody s_gaps) (defScope s_gaps) .none kV7 dc7 pm7 an7 cd7 ct7), sl7⟩) (c7 : PySem.W.codeIn K cd7 "gaps" = true) (k7 : PySem.W.keepIn K (.ref f7) = true)
    (a8 : PySem.W.nsIn K mainGlobals "places" = some (some (.ref f8))) (l8 : K.lookup f8 = some ⟨oc8, od8, .func (PySem.W.fnOf "places" "places" (defArgs s_places) (defBody s_places) (defScope s_places) .none kV8 dc8 pm8 an8 cd8 ct8), sl8⟩) (c8 : PySem.W.codeIn K cd8 "places" = true) (k8 : PySem.W.keepIn K (.ref f8) = true)
    (a9 : PySem.W.nsIn K mainGlobals "first_place" = some (some (.ref f9))) (l9 : K.lookup f9 = some ⟨oc9, od9, .func (PySem.W.fnOf "first_place" "first_place" (defArgs s_first_place) (defBody s_first_place) (defScope s_first_place) .none kV9 dc9 pm9 an9 cd9 ct9), sl9⟩) (c9 : PySem.W.codeIn K cd9 "first_place" = true) (k9 : PySem.W.keepIn K (.ref f9) = true)
    {lc lP : Addr} {lq0 : Value} {lq1 : Option Addr} {lq2 : Array (Option Value)} {lvs : Array Value}
    (a10 : PySem.W.nsIn K mainGlobals "chosen_area" = some (some (.ref f10))) (l10 : K.lookup f10 = some ⟨oc10, od10, .func (PySem.W.fnOf "chosen_area" "chosen_area" (defArgs s_chosen_area) (defBody s_chosen_area) (defScope s_chosen_area) .none kV10 dc10 pm10 an10 (.ref lc) ct10), sl10⟩) (c10 : PySem.W.codeIn K (.ref lc) "chosen_area" = true) (k10 : PySem.W.keepIn K (.ref f10) = true)
    (r0 : K.lookup lc = some ⟨lq0, lq1, .fields lvs, lq2⟩) (r1 : lvs[11]? = some (.ref lP)) (r2 : K.lookup lP = none)
    {dv11 : Addr} {dvc11 : Value} {dvd11 : Option Addr} {dvn11 : Nat} {dvs11 : Array (Option Value)} {dvt11 : Tok}
    (a11 : PySem.W.nsIn K mainGlobals "place_block" = some (some (.ref f11))) (l11 : K.lookup f11 = some ⟨oc11, od11, .func (PySem.W.fnOf "place_block" "place_block" (defArgs s_place_block) (defBody s_place_block) (defScope s_place_block) (.ref dv11) kV11 dc11 pm11 an11 cd11 ct11), sl11⟩) (c11 : PySem.W.codeIn K cd11 "place_block" = true) (k11 : PySem.W.keepIn K (.ref f11) = true)
    (y11 : K.lookup dv11 = some ⟨dvc11, dvd11, .seq #[.int 0 dvt11] dvn11, dvs11⟩)
    (a12 : PySem.W.nsIn K mainGlobals "_law_due" = some (some (.ref f12))) (l12 : K.lookup f12 = some ⟨oc12, od12, .func (PySem.W.fnOf "_law_due" "_law_due" (defArgs s_law_due) (defBody s_law_due) (defScope s_law_due) .none kV12 dc12 pm12 an12 cd12 ct12), sl12⟩) (c12 : PySem.W.codeIn K cd12 "_law_due" = true) (k12 : PySem.W.keepIn K (.ref f12) = true)
    (a13 : PySem.W.nsIn K mainGlobals "law" = some (some (.ref f13))) (l13 : K.lookup f13 = some ⟨oc13, od13, .func (PySem.W.fnOf "law" "law" (defArgs s_law) (defBody s_law) (defScope s_law) .none kV13 dc13 pm13 an13 cd13 ct13), sl13⟩) (c13 : PySem.W.codeIn K cd13 "law" = true) (k13 : PySem.W.keepIn K (.ref f13) = true)
    (z_bool : PySem.W.nsIn K mainGlobals "bool" = some none)
    (z_int : PySem.W.nsIn K mainGlobals "int" = some none)
    (z_isinstance : PySem.W.nsIn K mainGlobals "isinstance" = some none)
    (z_len : PySem.W.nsIn K mainGlobals "len" = some none)
    (z_max : PySem.W.nsIn K mainGlobals "max" = some none)
    (z_min : PySem.W.nsIn K mainGlobals "min" = some none)
    (z_range : PySem.W.nsIn K mainGlobals "range" = some none)
    : ∃ (fd : FuncData) (c P : Addr), PySem.W.tabIn K "chosen_area" = some (c, P) ∧ K.lookup P = none ∧ (∀ (s : Shared) (v : Value), BindsTo s fd ⟨[v], []⟩ [("script", v)]) ∧ ∀ base : Heap, K.In base → base.Ns mainGlobals mg → LamX.TabB base mg c P → FnOk l.prog w K mg base CX0 5 fa fd ["script"] (sp_law K P) := by
  have e := hfa.symm.trans (PySem.W.mg_of X G a13)
  cases e
  have T : Txt mg := ⟨PySem.W.mg_none_of X G z_bool, PySem.W.mg_none_of X G z_int, PySem.W.mg_none_of X G z_isinstance, PySem.W.mg_none_of X G z_len, PySem.W.mg_none_of X G z_max, PySem.W.mg_none_of X G z_min, PySem.W.mg_none_of X G z_range⟩
  have F_law_cell := fun_mk (st := s_law_cell) l1 c1 k1
  have B_law_cell := F_law_cell.binds (ps := ["script", "k"]) fun _ _ _ _ _ _ us hl => match us, hl with | [_, _], _ => rfl
  have F_law_digits := fun_mk (st := s_law_digits) l2 c2 k2
  have B_law_digits := F_law_digits.binds (ps := ["script", "first", "last"]) fun _ _ _ _ _ _ us hl => match us, hl with | [_, _, _], _ => rfl
  have F_law_draw := fun_mk (st := s_law_draw) l3 c3 k3
  have B_law_draw := F_law_draw.binds (ps := ["box", "many"]) fun _ _ _ _ _ _ us hl => match us, hl with | [_, _], _ => rfl
  have F_law_blocks := fun_mk (st := s_law_blocks) l4 c4 k4
  have B_law_blocks := F_law_blocks.binds (ps := ["box", "size", "most"]) fun _ _ _ _ _ _ us hl => match us, hl with | [_, _, _], _ => rfl
  have F_law_cells := fun_mk (st := s_law_cells) l5 c5 k5
  have B_law_cells := F_law_cells.binds (ps := ["size", "blocks"]) fun _ _ _ _ _ _ us hl => match us, hl with | [_, _], _ => rfl
  have F_law_runs := fun_mk (st := s_law_runs) l6 c6 k6
  have B_law_runs := F_law_runs.binds (ps := ["cells"]) fun _ _ _ _ _ _ us hl => match us, hl with | [_], _ => rfl
  have F_gaps := fun_mk (st := s_gaps) l7 c7 k7
  have B_gaps := F_gaps.binds (ps := ["size", "layout"]) fun _ _ _ _ _ _ us hl => match us, hl with | [_, _], _ => rfl
  have F_places := fun_mk (st := s_places) l8 c8 k8
  have B_places := F_places.binds (ps := ["size", "layout", "length"]) fun _ _ _ _ _ _ us hl => match us, hl with | [_, _, _], _ => rfl
  have F_first_place := fun_mk (st := s_first_place) l9 c9 k9
  have B_first_place := F_first_place.binds (ps := ["found", "cursor"]) fun _ _ _ _ _ _ us hl => match us, hl with | [_, _], _ => rfl
  have F_place_block : FunD K "place_block" "place_block" (defArgs s_place_block) (defBody s_place_block) (defScope s_place_block) [.int 0] [] f11 _ := ⟨⟨_, _, _, _, _, _, _, _, _, _, rfl, l11, c11, .inr ⟨by simp, dv11, _, [.int 0 dvt11], dvn11, rfl, y11, rfl, .cons ⟨_, rfl⟩ .nil⟩, .inl rfl⟩, k11⟩
  obtain ⟨ds4, d4, b4⟩ := F_place_block.binds1 (ps := ["size", "layout", "length", "policy", "cursor"]) 4 0 (by simp) rfl fun _ _ _ _ _ _ _ us its hl hi => match us, its, hl, hi with | [_, _, _, _], [_], _, _ => ⟨_, rfl, rfl⟩
  obtain ⟨ds5, d5, b5⟩ := F_place_block.binds1 (ps := ["size", "layout", "length", "policy", "cursor"]) 5 1 (by simp) rfl fun _ _ _ _ _ _ _ us its hl hi => match us, its, hl, hi with | [_, _, _, _, _], [_], _, _ => ⟨_, rfl, rfl⟩
  obtain rfl : ds5 = [] := by cases d5; rfl
  have F_law_due := fun_mk (st := s_law_due) l12 c12 k12
  have B_law_due := F_law_due.binds (ps := ["runs", "length", "policy", "cursor"]) fun _ _ _ _ _ _ us hl => match us, hl with | [_, _, _, _], _ => rfl
  have F_law := fun_mk (st := s_law) l13 c13 k13
  refine ⟨PySem.W.fnOf "law" "law" (defArgs s_law) (defBody s_law) (defScope s_law) .none kV13 dc13 pm13 an13 cd13 ct13, lc, lP, ?tab, r2, fun s v => .of_eq rfl, fun base _ _ TB => ?_⟩
  case tab => simp only [PySem.W.tabIn, a10, l10, r0, r1]
  have C_law_cell := mk_law_cell (P := l.prog) (w := w) (base := base) T F_law_cell (PySem.W.mg_of X G a1) B_law_cell
  have C_law_digits := mk_law_digits (P := l.prog) (w := w) (base := base) T F_law_digits (PySem.W.mg_of X G a2) B_law_digits C_law_cell
  have C_law_draw := mk_law_draw (P := l.prog) (w := w) (base := base) T F_law_draw (PySem.W.mg_of X G a3) B_law_draw
  have C_law_blocks := mk_law_blocks (P := l.prog) (w := w) (base := base) T F_law_blocks (PySem.W.mg_of X G a4) B_law_blocks C_law_draw
  have C_law_cells := mk_law_cells (P := l.prog) (w := w) (base := base) T F_law_cells (PySem.W.mg_of X G a5) B_law_cells
  have C_law_runs := mk_law_runs (P := l.prog) (w := w) (base := base) T F_law_runs (PySem.W.mg_of X G a6) B_law_runs
  have C_gaps := mk_gaps (P := l.prog) (w := w) (base := base) T F_gaps (PySem.W.mg_of X G a7) B_gaps
  have C_places := mk_places (P := l.prog) (w := w) (base := base) T F_places (PySem.W.mg_of X G a8) B_places C_gaps
  have C_first_place := mk_first_place (P := l.prog) (w := w) (base := base) T F_first_place (PySem.W.mg_of X G a9) B_first_place
  have C_chosen_area := mk_chosen_area (Pr := l.prog) (w := w) (base := base) T l10 c10 k10 (PySem.W.mg_of X G a10) TB
  have C_place_block := mk_place_block (P := l.prog) (w := w) (base := base) T F_place_block (PySem.W.mg_of X G a11) b5 d4 b4 C_gaps C_places C_first_place C_chosen_area
  have C_law_due := mk_law_due (P := l.prog) (w := w) (base := base) T F_law_due (PySem.W.mg_of X G a12) B_law_due
  exact mk_law T F_law C_law_digits C_law_draw C_law_blocks C_law_cells C_law_runs C_place_block C_law_due
end Pf
open PySem PySem.W PyProof.Rows
set_option maxRecDepth 100000 in
set_option maxHeartbeats 0 in
theorem PySem.Challenge.cw_heapgame_k04_places_of_policies_holds : PySem.Challenge.rw_heapgame_k04_places_of_policies.Holds := by
  w_on; o_law; k_head; (case hw => w_witness2)
  k_fill
  refine Pf.walkT (l := PySem.Challenge.rw_heapgame_k04_places_of_policies) (n := 63) (k := 5) (x := "script") (y := "chosen_area") (sp := Pf.sp_law) rfl (by decide) rfl ⟨rfl, by decide, by decide⟩ (fun w h Y => PySem.W.km_in_of Y) rfl (fun _ _ _ a ns hl hP hS => ⟨a, ns, rfl, hS, hl, hP, fun _ => rfl⟩) ?F
  case F =>
    intro w mg fa h KX G hmg
    refine' Pf.all_mk KX G hmg ?a1 ?l1 ?c1 ?k1 ?a2 ?l2 ?c2 ?k2 ?a3 ?l3 ?c3 ?k3 ?a4 ?l4 ?c4 ?k4 ?a5 ?l5 ?c5 ?k5 ?a6 ?l6 ?c6 ?k6 ?a7 ?l7 ?c7 ?k7 ?a8 ?l8 ?c8 ?k8 ?a9 ?l9 ?c9 ?k9 ?a10 ?l10 ?c10 ?k10 ?r0 ?r1 ?r2 ?a11 ?l11 ?c11 ?k11 ?y11 ?a12 ?l12 ?c12 ?k12 ?a13 ?l13 ?c13 ?k13 ?z_bool ?z_int ?z_isinstance ?z_len ?z_max ?z_min ?z_range
    (case a1 => k_is)
    (case l1 => k_is)
    (case c1 => k_is)
    (case k1 => k_is)
    (case a2 => k_is)
    (case l2 => k_is)
    (case c2 => k_is)
    (case k2 => k_is)
    (case a3 => k_is)
    (case l3 => k_is)
    (case c3 => k_is)
    (case k3 => k_is)
    (case a4 => k_is)
    (case l4 => k_is)
    (case c4 => k_is)
    (case k4 => k_is)
    (case a5 => k_is)
    (case l5 => k_is)
    (case c5 => k_is)
    (case k5 => k_is)
    (case a6 => k_is)
    (case l6 => k_is)
    (case c6 => k_is)
    (case k6 => k_is)
    (case a7 => k_is)
    (case l7 => k_is)
    (case c7 => k_is)
    (case k7 => k_is)
    (case a8 => k_is)
    (case l8 => k_is)
    (case c8 => k_is)
    (case k8 => k_is)
    (case a9 => k_is)
    (case l9 => k_is)
    (case c9 => k_is)
    (case k9 => k_is)
    (case a10 => k_is)
    (case l10 => k_is)
    (case c10 => k_is)
    (case k10 => k_is)
    (case r0 => k_is)
    (case r1 => rfl)
    (case r2 => first | k_is | rfl | kernel_rfl)
    (case a11 => k_is)
    (case l11 => k_is)
    (case c11 => k_is)
    (case k11 => k_is)
    (case y11 => k_is)
    (case a12 => k_is)
    (case l12 => k_is)
    (case c12 => k_is)
    (case k12 => k_is)
    (case a13 => k_is)
    (case l13 => k_is)
    (case c13 => k_is)
    (case k13 => k_is)
    (case z_bool => k_is)
    (case z_int => k_is)
    (case z_isinstance => k_is)
    (case z_len => k_is)
    (case z_max => k_is)
    (case z_min => k_is)
    (case z_range => k_is)
