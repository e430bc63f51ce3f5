import PyProof.Rows.All
import Wide.All
import OpenK.AllK
import Wide.FinOn
import HandS.ForMost
import HandS.TupLe
import HandS.Gcd
import HandS.IsInst
import HandS.SortInts
import HandS.SortRule
import HandS.Deep
import HandS.SortKw
import KE.DataMinMax
import KE.KEqSeq
import PySem.Challenge.RW_heapgame_k00_gaps_and_measures
set_option Elab.async false
set_option linter.all false
set_option maxRecDepth 100000
namespace Pf
open PySem L2
/-! ### a def that may be called -/
structure Cal (P : Program) (w : World) (K : PySem.W.Frag) (mg : Str → Option Value) (base : Heap) (x : Str) (k : Nat) (f : Addr) (fd : FuncData) (ps : List Str) (sp : Sp) : Prop where
  ok : FnOk P w K mg base CX0 k f fd ps sp
  mg : mg x = some (.ref f)
  (kp : PySem.W.keepIn K (.ref f) = true)
  b : Binds K fd ps []
/-- an expression asked for its truth -/
def tTru (K : PySem.W.Frag) (ta : TE) : TT := fun σ H R => ta σ H fun v h => ∃ c, TruV K v h c ∧ R c h
theorem pt_truthN {X : Cx} {a : Expr} {ta : TE} (ha : PE X a ta) (he : ∀ whole, isTrue a X.env whole = (do let v ← whole; standAt a.pos; holding [v] (truthy v)) := by intro _; rfl) : PT X a (tTru X.K ta) := pt_truth ha he
theorem room65 {A : Around} {k : Nat} (hr : Room (k + 1) A) : A.units + 65 < cLine := by have := hr.un; omega
/-! ### the readings, one step each -/
section
variable {K : PySem.W.Frag} {σ : St} {H : Hp} {Q : VK} {D : Ends} {ta tb te : TE} {t u : TS} {c : TT}
theorem r_seq (h : t { D with nx := u D } σ H) : tSeq t u D σ H := h
theorem r_seqA {g : TG} (h : te σ H fun x H1 => g x σ H1 (u D)) : tSeq (tAsg te g) u D σ H := h
theorem r_seqD (h : te σ H fun _ H1 => u D σ H1) : tSeq (tDrop te) u D σ H := h
theorem r_seqF {wi : TI} {g : TG} {tb : TS} (h : tFor wi g tb { D with nx := u D } σ H) : tSeq (tFor wi g tb) u D σ H := h
theorem r_seqN (h : u D σ H) : tSeq tNext u D σ H := h
theorem r_seqG (h : ∀ R : St → Hp → Prop, (∀ σ H, u D σ H → R σ H) → t { D with nx := R } σ H) : tSeq t u D σ H := h (u D) fun _ _ x => x
theorem r_asg {g : TG} (h : te σ H fun x H1 => g x σ H1 D.nx) : tAsg te g D σ H := h
theorem r_drop (h : te σ H fun _ H1 => D.nx σ H1) : tDrop te D σ H := h
theorem r_ret (h : te σ H D.rt) : tRet te D σ H := h
theorem r_ifS (h : c σ H fun b H1 => if b = true then t D σ H1 else u D σ H1) : tIfS c t u D σ H := h
theorem r_next (h : D.nx σ H) : tNext D σ H := h
theorem r_cont (h : D.ct σ H) : tCont D σ H := h
theorem r_name {i : Nat} {v : V} {q : St → Hp → Prop} (h : q (σ.set i (some v)) H) : gName i v σ H q := h
theorem r_gnil {q : St → Hp → Prop} (h : q σ H) : gNil [] σ H q := ⟨rfl, h⟩
theorem r_gcons {t : TG} {u : TGs} {v : V} {vs : List V} {q : St → Hp → Prop} (h : t v σ H fun σ' H' => u vs σ' H' q) : gCons t u (v :: vs) σ H q := ⟨v, vs, rfl, h⟩
theorem r_gtup {n : Nat} {t : TGs} {a : Addr} {xs : List V} {q : St → Hp → Prop} (h1 : SqT K H a xs) (h2 : xs.length = n) (h : t xs σ H q) : gTup K n t (.ref a) σ H q := ⟨a, xs, rfl, h1, h2, h⟩
theorem r_gsub {to ti : TE} {t : TSet} {v : V} {q : St → Hp → Prop} (h : to σ H fun o H1 => ti σ H1 fun i H2 => t o i v H2 fun H3 => q σ H3) : gSub to ti t v σ H q := h
theorem r_setL0 {p : Addr} {xs : List V} {k : Int} {j : Nat} {v : V} {q : Hp → Prop} (h1 : H p = some (.lst xs)) (h2 : ixN xs.length k = some j) (h : q (upd H p (.lst (xs.set j v)))) : rSetL (.ref p) (.int k) v H q := ⟨p, xs, k, j, rfl, rfl, h1, h2, h⟩
theorem r_var {i : Nat} {v : V} (h : σ[i]? = some (some v)) (q : Q v H) : tVar i σ H Q := ⟨v, h, q⟩
theorem r_c {v : V} (q : Q v H) : tC v σ H Q := q
theorem r_op {r : R2} (h : ta σ H fun x H1 => tb σ H1 fun y H2 => r x y H2 Q) : tOp r ta tb σ H Q := h
theorem r_un {r : V → Hp → VK → Prop} (h : ta σ H fun x H1 => r x H1 Q) : tUn r ta σ H Q := h
theorem r_I0 {g : Int → Int → V} {i j : Int} (q : Q (g i j) H) : rI0 g (.int i) (.int j) H Q := ⟨i, j, rfl, rfl, q⟩
theorem r_I {C : Int → Int → Prop} {g : Int → Int → V} {i j : Int} (hc : C i j) (q : Q (g i j) H) : rI C g (.int i) (.int j) H Q := ⟨i, j, rfl, rfl, hc, q⟩
theorem r_U {g : Int → V} {i : Int} (q : Q (g i) H) : rU g (.int i) H Q := ⟨i, rfl, q⟩
theorem r_eqI {i j : Int} (q : Q (.bl (decide (i = j))) H) : rEq (.int i) (.int j) H Q := ⟨rfl, by rw [show decide (V.int i = V.int j) = decide (i = j) by simp]; exact q⟩
theorem r_neI {i j : Int} (q : Q (.bl (!decide (i = j))) H) : rNe (.int i) (.int j) H Q := ⟨rfl, by rw [show decide (V.int i = V.int j) = decide (i = j) by simp]; exact q⟩
theorem r_eqB {i j : Bool} (q : Q (.bl (decide (i = j))) H) : rEq (.bl i) (.bl j) H Q := ⟨rfl, by rw [show decide (V.bl i = V.bl j) = decide (i = j) by simp]; exact q⟩
theorem r_neB {i j : Bool} (q : Q (.bl (!decide (i = j))) H) : rNe (.bl i) (.bl j) H Q := ⟨rfl, by rw [show decide (V.bl i = V.bl j) = decide (i = j) by simp]; exact q⟩
theorem r_eq {x y : V} (hs : scal x y = true) (q : Q (.bl (decide (x = y))) H) : rEq x y H Q := ⟨hs, q⟩
theorem r_ne {x y : V} (hs : scal x y = true) (q : Q (.bl (!decide (x = y))) H) : rNe x y H Q := ⟨hs, q⟩
theorem r_test {q : Bool → Hp → Prop} (h : te σ H fun x H' => ∃ k, x = .bl k ∧ q k H') : tTest te σ H q := h
theorem r_B {q : Bool → Hp → Prop} (h : te σ H fun x H' => ∃ k, x = .bl k ∧ q k H') : tB te σ H q := h
theorem r_bl {b : Bool} {q : Bool → Prop} (h : q b) : ∃ k, V.bl b = .bl k ∧ q k := ⟨b, rfl, h⟩
theorem r_rfl {x : St} {A : Prop} (q : A) : x = x ∧ A := ⟨rfl, q⟩
theorem r_eqA {x y : St} {A : Prop} (h : x = y) (q : A) : x = y ∧ A := ⟨h, q⟩
theorem r_wipe {σ1 σ2 : St} {vs : List Nat} {A : Prop} (h : wipe σ1 vs = wipe σ2 vs) (q : A) : wipe σ1 vs = wipe σ2 vs ∧ A := ⟨h, q⟩
theorem r_bl2 {a b : Bool} {A : Bool → Bool → Prop} (h : A a b) : ∃ x y, V.bl a = .bl x ∧ V.bl b = .bl y ∧ A x y := ⟨a, b, rfl, rfl, h⟩
theorem r_yes {q : Bool → Hp → Prop} (h : q true H) : tYes σ H q := h
theorem r_and {a b : TT} {q : Bool → Hp → Prop} (h : a σ H fun c H1 => if c = true then b σ H1 q else q false H1) : L2.tAnd a b σ H q := h
theorem r_or {a b : TT} {q : Bool → Hp → Prop} (h : a σ H fun c H1 => if c = true then q true H1 else b σ H1 q) : L2.tOr a b σ H q := h
theorem r_not {a : TT} {q : Bool → Hp → Prop} (h : a σ H fun c H1 => q (!c) H1) : L2.tNot a σ H q := h
theorem r_andV {a b : TE} (h : a σ H fun x H1 => ∃ c, x = .bl c ∧ if c = true then b σ H1 Q else Q (.bl false) H1) : tAndV a b σ H Q := h
theorem r_orV {a b : TE} (h : a σ H fun x H1 => ∃ c, x = .bl c ∧ if c = true then Q (.bl true) H1 else b σ H1 Q) : tOrV a b σ H Q := h
theorem r_notV {a : TE} (h : a σ H fun x H1 => ∃ c, x = .bl c ∧ Q (.bl (!c)) H1) : tNotV a σ H Q := h
theorem r_ifE {c : TT} (h : c σ H fun b H1 => if b = true then ta σ H1 Q else tb σ H1 Q) : tIf c ta tb σ H Q := h
theorem r_nil {q : List V → Hp → Prop} (h : q [] H) : tNil σ H q := h
theorem r_cons {tr : TA} {q : List V → Hp → Prop} (h : ta σ H fun x H1 => tr σ H1 fun xs H2 => q (x :: xs) H2) : tCons ta tr σ H q := h
theorem r_tup {ts : TA} (h : ts σ H fun xs H1 => xs.length ≤ sizeLine ∧ ∀ p, H1 p = none → Q (.ref p) (upd H1 p (.tup xs))) : tTup ts σ H Q := h
theorem r_lst {ts : TA} (h : ts σ H fun xs H1 => xs.length ≤ sizeLine ∧ ∀ p, H1 p = none → Q (.ref p) (upd H1 p (.lst xs))) : tLst ts σ H Q := h
theorem r_small {xs : List V} {A : Prop} (h : A) (hs : xs.length ≤ sizeLine) : xs.length ≤ sizeLine ∧ A := ⟨hs, h⟩
theorem r_CB {r : List V → Hp → VK → Prop} {ts : TA} (h : ts σ H fun vs H1 => r vs H1 Q) : tCB r ts σ H Q := h
theorem r_call {sp : Sp} {E : XK} {ts : TA} (h : ts σ H fun vs H1 => sp vs H1 Q E) : tCall sp [] E ts σ H Q := by
  have e : (fun vs H1 => sp (vs ++ []) H1 Q E) = fun vs H1 => sp vs H1 Q E := by
    funext vs H1
    rw [List.append_nil]
  show ts σ H fun vs H1 => sp (vs ++ []) H1 Q E
  rw [e]
  exact h
theorem r_bm {T : String} {r : V → List V → Hp → VK → Prop} {ts : TA} (h : te σ H fun x H1 => tyV K T x H1 ∧ ts σ H1 fun xs H2 => r x xs H2 Q) : tBM K T r te ts σ H Q := h
theorem r_bm0 {T : String} {r : V → List V → Hp → VK → Prop} (h : te σ H fun x H1 => tyV K T x H1 ∧ r x [] H1 Q) : tBM0 K T r te σ H Q := h
theorem ty_lst {p : Addr} {xs : List V} (h : H p = some (.lst xs)) : tyV K "list" (.ref p) H := .inl ⟨rfl, _, .inl (.inl h)⟩
theorem r_app0 {p : Addr} {xs : List V} {y : V} (h : H p = some (.lst xs)) (hs : xs.length < sizeLine) (q : Q .non (upd H p (.lst (xs ++ [y])))) : rAppend (.ref p) [y] H Q := ⟨p, xs, y, rfl, rfl, h, hs, q⟩
theorem r_ixL {p : Addr} {xs : List V} {i : Int} {v : V} (h : SqL K H p xs) (ha : atI xs i = some v) (q : Q v H) : rIxL K (.ref p) (.int i) H Q := ⟨p, xs, i, v, rfl, rfl, h, ha, q⟩
theorem r_ixT {p : Addr} {xs : List V} {i : Int} {v : V} (h : SqT K H p xs) (ha : atI xs i = some v) (q : Q v H) : rIxT K (.ref p) (.int i) H Q := ⟨p, xs, i, v, rfl, rfl, h, ha, q⟩
theorem r_int {i : Int} {A : Int → Prop} {B : Prop} (q : A i) : (∃ j, [V.int i] = [V.int j] ∧ A j) ∨ B := .inl ⟨i, rfl, q⟩
theorem r_lenL {p : Addr} {xs : List V} {A : Addr → List V → Prop} (h : SqL K H p xs) (q : A p xs) : ∃ p' ys, [V.ref p] = [V.ref p'] ∧ (SqL K H p' ys ∨ SqT K H p' ys) ∧ A p' ys := ⟨p, xs, rfl, .inl h, q⟩
theorem r_lenT {p : Addr} {xs : List V} {A : Addr → List V → Prop} (h : SqT K H p xs) (q : A p xs) : ∃ p' ys, [V.ref p] = [V.ref p'] ∧ (SqL K H p' ys ∨ SqT K H p' ys) ∧ A p' ys := ⟨p, xs, rfl, .inr h, q⟩
theorem r_i2 {i j : Int} {A : Int → Int → Prop} (q : A i j) : ∃ i' j', [V.int i, V.int j] = [V.int i', V.int j'] ∧ A i' j' := ⟨i, j, rfl, q⟩
theorem r_i1 {i : Int} {A : Int → Prop} (q : A i) : ∃ i', [V.int i] = [V.int i'] ∧ A i' := ⟨i, rfl, q⟩
theorem r_ite {p A B : Prop} [Decidable p] (h1 : p → A) (h2 : ¬ p → B) : if decide p = true then A else B := by
  by_cases h : p
  · rw [if_pos (decide_eq_true h)]
    exact h1 h
  · rw [if_neg (by simp [h])]
    exact h2 h
theorem r_iteN {p A B : Prop} [Decidable p] (h1 : ¬ p → A) (h2 : p → B) : if (!decide p) = true then A else B := by
  by_cases h : p
  · rw [if_neg (by simp [h])]
    exact h2 h
  · rw [if_pos (by simp [h])]
    exact h1 h
theorem r_iteB {b : Bool} {A B : Prop} (h1 : b = true → A) (h2 : b = false → B) : if b = true then A else B := by
  cases b
  · exact h2 rfl
  · exact h1 rfl
/-! ### loops -/
theorem r_rng1 {j : Int} {A : Int → Prop} (h1 : -(2 ^ 62) ≤ j) (h2 : j < 2 ^ 62) (h : A j) : ∃ j' : Int, [V.int j] = [V.int j'] ∧ -(2 ^ 62) ≤ j' ∧ j' < 2 ^ 62 ∧ A j' := ⟨j, rfl, h1, h2, h⟩
theorem r_rng2 {i j : Int} {A : Int → Int → Prop} (h1 : -(2 ^ 62) ≤ i ∧ i < 2 ^ 62 ∧ -(2 ^ 62) ≤ j ∧ j < 2 ^ 62) (h : A i j) : ∃ i' j' : Int, [V.int i, V.int j] = [V.int i', V.int j'] ∧ (-(2 ^ 62) ≤ i' ∧ i' < 2 ^ 62 ∧ -(2 ^ 62) ≤ j' ∧ j' < 2 ^ 62) ∧ A i' j' := ⟨i, j, rfl, h1, h⟩
theorem r_sl {r : V → Option Int → Option Int → Hp → VK → Prop} {tl th : TO} (h : te σ H fun x H1 => tl σ H1 fun l H2 => th σ H2 fun u H3 => r x l u H3 Q) : tSl r te tl th σ H Q := h
theorem r_noPart {q : Option Int → Hp → Prop} (h : q none H) : tNoPart σ H q := h
theorem r_part {q : Option Int → Hp → Prop} (h : te σ H fun x H1 => ∃ i, x = .int i ∧ q (some i) H1) : tPart te σ H q := h
theorem r_int1 {i : Int} {A : Int → Prop} (h : A i) : ∃ j, V.int i = .int j ∧ A j := ⟨i, rfl, h⟩
theorem r_slT {a : Addr} {xs : List V} {lo hi : Option Int} (h : SqT K H a xs) (hn : ¬ (HT.sIx xs.length 0 lo = 0 ∧ HT.sIx xs.length xs.length hi = xs.length)) (q : ∀ p, H p = none → Q (.ref p) (upd H p (.tup (cutV xs lo hi)))) : rSlT K (.ref a) lo hi H Q := ⟨a, xs, rfl, h, hn, q⟩
theorem r_slL {a : Addr} {xs : List V} {lo hi : Option Int} (h : SqL K H a xs) (q : ∀ p, H p = none → Q (.ref p) (upd H p (.lst (cutV xs lo hi)))) : rSlL K (.ref a) lo hi H Q := ⟨a, xs, rfl, h, q⟩
theorem r_tru {K : PySem.W.Frag} {q : Bool → Hp → Prop} (h : te σ H fun x H' => ∃ k, TruV K x H' k ∧ q k H') : tTru K te σ H q := h
theorem r_truL {p : Addr} {xs : List V} {q : Bool → Prop} (h : SqL K H p xs) (a : q (!xs.isEmpty)) : ∃ k, TruV K (.ref p) H k ∧ q k := ⟨_, .inl ⟨xs, h, rfl⟩, a⟩
/-- a walk: each turn leads on or there is none left; R goes down in its second place -/
def WkH (J : It) (Fin : Hp → Prop) (Turns : V → Hp → (Hp → Prop) → Prop) (h₀ : Hp) : Prop :=
  ∃ R : Nat → Nat → Hp → Prop, (∃ c, R 0 c h₀) ∧ ∀ i c h, R i c h → (J.stop i h ∧ Fin h) ∨ (J.go i h ∧ ∃ B : Hp → Prop, (∀ h', B h' → ∃ c', c' < c ∧ R (i + 1) c' h') ∧ ∀ y h', J.yld i h y h' → Turns y h' B)
/-- the same, with slots -/
def WkS (J : It) (Fin : St → Hp → Prop) (Turns : V → St → Hp → (St → Hp → Prop) → Prop) (s₀ : St) (h₀ : Hp) : Prop :=
  ∃ R : Nat → Nat → St → Hp → Prop, (∃ c, R 0 c s₀ h₀) ∧ ∀ i c s h, R i c s h → (J.stop i h ∧ Fin s h) ∨ (J.go i h ∧ ∃ B : St → Hp → Prop, (∀ s' h', B s' h' → ∃ c', c' < c ∧ R (i + 1) c' s' h') ∧ ∀ y h', J.yld i h y h' → Turns y s h' B)
/-- a walk of n turns: P i holds ahead of the i-th one -/
theorem walkH {J : It} {n : Nat} {h₀ : Hp} {Fin : Hp → Prop} {Turns : V → Hp → (Hp → Prop) → Prop} (P : Nat → Hp → Prop) (start : P 0 h₀) (last : ∀ h, P n h → J.stop n h ∧ Fin h)
    (next : ∀ i h, i < n → P i h → J.go i h ∧ ∀ y h', J.yld i h y h' → Turns y h' (P (i + 1))) : WkH J Fin Turns h₀ := by
  refine ⟨fun i c h => i ≤ n ∧ i + c = n ∧ P i h, ⟨n, Nat.zero_le n, Nat.zero_add n, start⟩, ?_⟩
  rintro i c h ⟨le, sum, p⟩
  rcases Nat.lt_or_ge i n with lt | ge
  · obtain ⟨g, turns⟩ := next i h lt p
    exact Or.inr ⟨g, P (i + 1), fun h' p' => ⟨c - 1, by omega, lt, by omega, p'⟩, turns⟩
  · obtain rfl : i = n := by omega
    exact Or.inl (last h p)
theorem walkS {J : It} {n : Nat} {s₀ : St} {h₀ : Hp} {Fin : St → Hp → Prop} {Turns : V → St → Hp → (St → Hp → Prop) → Prop} (P : Nat → St → Hp → Prop) (start : P 0 s₀ h₀) (last : ∀ s h, P n s h → J.stop n h ∧ Fin s h)
    (next : ∀ i s h, i < n → P i s h → J.go i h ∧ ∀ y h', J.yld i h y h' → Turns y s h' (P (i + 1))) : WkS J Fin Turns s₀ h₀ := by
  refine ⟨fun i c s h => i ≤ n ∧ i + c = n ∧ P i s h, ⟨n, Nat.zero_le n, Nat.zero_add n, start⟩, ?_⟩
  rintro i c s h ⟨le, sum, p⟩
  rcases Nat.lt_or_ge i n with lt | ge
  · obtain ⟨g, turns⟩ := next i s h lt p
    exact Or.inr ⟨g, P (i + 1), fun s' h' p' => ⟨c - 1, by omega, lt, by omega, p'⟩, turns⟩
  · obtain rfl : i = n := by omega
    exact Or.inl (last s h p)
/-- over a range -/
theorem w_range {lo : Int} {n : Nat} {H0 : Hp} {Qd : Hp → Prop} {Body : V → Hp → (Hp → Prop) → Prop} (P : Nat → Hp → Prop) (start : P 0 H0) (hs : ∀ i H, i < n → P i H → Body (.int (lo + i)) H (P (i + 1))) (hd : ∀ H, P n H → Qd H) : WkH (Itr lo n) Qd Body H0 :=
  walkH P start (fun h p => And.intro (Nat.le_refl n) (hd h p)) fun i h lt p => And.intro lt fun y h' yl => by
    rcases yl with ⟨ey, eh⟩
    rw [ey, eh]
    exact hs i h lt p
/-- over a list -/
theorem w_list {K : PySem.W.Frag} {a : Addr} {xs : List V} {H0 : Hp} {Qd : Hp → Prop} {Body : V → Hp → (Hp → Prop) → Prop} (P : Nat → Hp → Prop) (start : P 0 H0) (hl : ∀ i H, i ≤ xs.length → P i H → SqL K H a xs) (hs : ∀ i x H, xs[i]? = some x → P i H → Body x H (P (i + 1))) (hd : ∀ H, P xs.length H → Qd H) : WkH (Itl K a) Qd Body H0 :=
  walkH P start (fun h p => And.intro ⟨xs, hl _ h (Nat.le_refl _) p, Nat.le_refl _⟩ (hd h p)) fun i h lt p => And.intro ⟨xs, xs[i], hl i h (Nat.le_of_lt lt) p, List.getElem?_eq_getElem lt⟩ fun y h' yl => by
    rcases yl with ⟨eh, at_⟩
    rw [eh]
    exact hs i y h (at_ xs (hl i h (Nat.le_of_lt lt) p)) p
theorem r_forS {wi : TI} {g : TG} {tb : TS} (h : wi σ H fun J h1 => WkS J D.nx (fun y s h2 B => g y s h2 (tb { D with nx := B, ct := B, bk := D.nx })) σ h1) : tFor wi g tb D σ H := h
theorem r_lc {wi : TI} {g : TG} {tt : TT} {vs : List Nat} (h : wi σ H fun J h1 => ∀ D, h1 D = none → WkH J (fun h2 => Q (.ref D) h2) (fun y h2 B => g y (wipe σ vs) h2 fun s h3 => wipe s vs = wipe σ vs ∧ tt s h3 fun b h4 => if b = true then te s h4 fun z h5 => ∃ acc, h5 D = some (.lst acc) ∧ acc.length < sizeLine ∧ B (upd h5 D (.lst (acc ++ [z]))) else B h4) (upd h1 D (.lst []))) :
    tLc wi g tt te vs σ H Q := h
theorem r_lc2 {wi : TI} {g : TG} {tt : TT} {wi1 : TI} {g1 : TG} {tt1 : TT} {vs vs1 : List Nat} (h : wi σ H fun J h1 => ∀ D, h1 D = none → WkH J (fun h2 => Q (.ref D) h2) (fun y h2 B => g y (wipe σ vs) h2 fun s h3 => wipe s vs = wipe σ vs ∧ tt s h3 fun b h4 =>
      if b = true then wi1 s h4 fun J1 h5 => WkH J1 B (fun y1 h6 B1 => g1 y1 (wipe s vs1) h6 fun s1 h7 => wipe s1 vs1 = wipe s vs1 ∧ tt1 s1 h7 fun b1 h8 => if b1 = true then te s1 h8 fun z h9 => ∃ acc, h9 D = some (.lst acc) ∧ acc.length < sizeLine ∧ B1 (upd h9 D (.lst (acc ++ [z]))) else B1 h8) h5 else B h4) (upd h1 D (.lst []))) :
    tLc2 wi g tt wi1 g1 tt1 te vs vs1 σ H Q := h
theorem r_ckw {r : List V → List V → Hp → VK → Prop} {ts tk : TA} (h : ts σ H fun vs H1 => tk σ H1 fun zs H2 => r vs zs H2 Q) : tCKw r ts tk σ H Q := h
theorem r_iR1 {tA : TA} {R : It → Hp → Prop} (h : tA σ H fun vs H1 => ∃ j : Int, vs = [V.int j] ∧ -(2 ^ 62) ≤ j ∧ j < 2 ^ 62 ∧ R (Itr 0 j.toNat) H1) : iRng1 tA σ H R := h
theorem r_iR2 {tA : TA} {R : It → Hp → Prop} (h : tA σ H fun vs H1 => ∃ i j : Int, vs = [V.int i, V.int j] ∧ (-(2 ^ 62) ≤ i ∧ i < 2 ^ 62 ∧ -(2 ^ 62) ≤ j ∧ j < 2 ^ 62) ∧ R (Itr i (j - i).toNat) H1) : iRng2 tA σ H R := h
theorem r_iL {tl : TE} {R : It → Hp → Prop} (h : tl σ H fun x H1 => ∃ a, x = V.ref a ∧ (∃ xs, SqL K H1 a xs) ∧ R (Itl K a) H1) : iList K tl σ H R := h
theorem r_iL2 {a : Addr} {xs : List V} {A : Addr → Prop} (h : SqL K H a xs) (q : A a) : ∃ a', V.ref a = V.ref a' ∧ (∃ xs, SqL K H a' xs) ∧ A a' := ⟨a, rfl, ⟨xs, h⟩, q⟩
end
theorem at_int {ns : List Int} {i : Int} (h0 : 0 ≤ i) (h1 : i < (ns.length : Int)) : atI (ns.map V.int) i = some (.int (ns.getD i.toNat 0)) := by
  obtain ⟨j, rfl⟩ : ∃ j : Nat, i = (j : Int) := ⟨i.toNat, by omega⟩
  have hj : j < ns.length := by omega
  refine atI_nat ?_
  rw [List.getElem?_map, List.getElem?_eq_getElem hj, Int.toNat_natCast, List.getD_eq_getElem?_getD, List.getElem?_eq_getElem hj]
  rfl
/-! ### heaps -/
theorem same_upd {H : Hp} {p : Addr} {o : HO} (new : H p = none) : Same H (upd H p o) := fun a u at_ => (upd_ne (ne_of_none at_ new)).trans at_
/-- all that is tracked is as it was, but what stands at b -/
def But (b : Addr) (H H' : Hp) : Prop := ∀ a o, a ≠ b → H a = some o → H' a = some o
theorem But.refl (b : Addr) (H : Hp) : But b H H := fun _ _ _ h => h
theorem But.trans {b : Addr} {H H1 H2 : Hp} (x : But b H H1) (y : But b H1 H2) : But b H H2 := fun a o n e => y a o n (x a o n e)
theorem But.of {b : Addr} {H H' : Hp} (x : Same H H') : But b H H' := fun a o _ e => x a o e
theorem But.upd {b : Addr} {H : Hp} {o : HO} : But b H (upd H b o) := fun a u n e => by rw [upd_ne n]; exact e
theorem But.same {b : Addr} {H H' : Hp} {o : HO} (x : But b H H') (h : H b = some o) (h' : H' b = some o) : Same H H' := fun a u e => by
  by_cases q : a = b
  · rw [q, h] at e
    rw [q, h']
    exact e
  · exact x a u q e
/-- from outside, what is made and then changed was never there -/
theorem But.new {b : Addr} {H0 H H' : Hp} (x : But b H H') (n : H0 b = none) (s : Same H0 H) : Same H0 H' := fun a u e => x a u (ne_of_none e n) (s a u e)
theorem But.seq {K : PySem.W.Frag} {b : Addr} {H H' : Hp} {a : Addr} {xs : List V} (e : But b H H') (n : a ≠ b) (h : SqL K H a xs) : SqL K H' a xs := by
  rcases h with (z | ⟨u, z⟩) | z
  · exact .inl (.inl (e _ _ n z))
  · exact .inl (.inr ⟨u, e _ _ n z⟩)
  · exact .inr z
theorem But.free {b : Addr} {H H' : Hp} {o : HO} (e : But b H H') (hb : H' b = some o) {l : Addr} (h : H' l = Option.none) : H l = Option.none := by
  cases q : H l with
  | none => rfl
  | some u =>
    by_cases n : l = b
    · rw [n, hb] at h
      cases h
    · rw [e l u n q] at h
      cases h
/-! ### the box of draws: [digits, the next one's place] -/
def Bx (H : Hp) (b d : Addr) : Prop := ∃ (ds : List Int) (at_ : Nat), H b = some (.lst [.ref d, .int at_]) ∧ H d = some (.lst (ds.map V.int)) ∧ d ≠ b
section
variable {H H' : Hp} {b d a p : Addr}
theorem Bx.same (h : Bx H b d) (s : Same H H') : Bx H' b d := let ⟨ds, k, e1, e2, n⟩ := h; ⟨ds, k, s _ _ e1, s _ _ e2, n⟩
theorem Bx.but (h : Bx H b d) (s : But p H H') (nb : p ≠ b) (nd : p ≠ d) : Bx H' b d := let ⟨ds, k, e1, e2, n⟩ := h; ⟨ds, k, s _ _ nb.symm e1, s _ _ nd.symm e2, n⟩
theorem Bx.ne (h : Bx H b d) (n : H a = none) : a ≠ b := let ⟨_, _, e, _⟩ := h; fun q => by rw [q, e] at n; cases n
theorem Bx.neD (h : Bx H b d) (n : H a = none) : a ≠ d := let ⟨_, _, _, e, _⟩ := h; fun q => by rw [q, e] at n; cases n
theorem Bx.neT {xs : List V} (h : Bx H b d) (n : H a = some (.tup xs)) : a ≠ b := let ⟨_, _, e, _⟩ := h; fun q => by rw [q, e] at n; cases n
theorem Bx.free (h : Bx H' b d) (e : But b H H') (n : H' a = none) : H a = none := let ⟨_, _, q, _⟩ := h; e.free q n
end
/-! ### the rules that change the heap, the new heap a letter -/
section
variable {K : PySem.W.Frag} {σ : St} {H : Hp} {Q : VK}
theorem r_setL {p : Addr} {xs : List V} {k : Int} {j : Nat} {v : V} {q : Hp → Prop} (h1 : H p = some (.lst xs)) (h2 : ixN xs.length k = some j) (h : ∀ H', H' p = some (.lst (xs.set j v)) → But p H H' → q H') : rSetL (.ref p) (.int k) v H q :=
  ⟨p, xs, k, j, rfl, rfl, h1, h2, h _ upd_same But.upd⟩
theorem r_app {p : Addr} {xs : List V} {y : V} (h : H p = some (.lst xs)) (hs : xs.length < sizeLine) (q : ∀ H', H' p = some (.lst (xs ++ [y])) → But p H H' → Q .non H') : rAppend (.ref p) [y] H Q := ⟨p, xs, y, rfl, rfl, h, hs, q _ upd_same But.upd⟩
@[elab_as_elim] theorem upd_new {p : Addr} {o : HO} {motive : Hp → Prop} (np : H p = none) (h : ∀ H', H' p = some o → Same H H' → motive H') : motive (upd H p o) := h _ upd_same (same_upd np)
end
theorem drop_get {α : Type} {xs : List α} {i : Nat} {x : α} (h : xs[i]? = some x) : xs.drop i = x :: xs.drop (i + 1) := by
  obtain ⟨hi, rfl⟩ := List.getElem?_eq_some_iff.mp h
  exact List.drop_eq_getElem_cons hi
theorem r_cat {H : Hp} {Q : VK} {l b : Addr} {xs zs : List V} (h1 : H l = some (.lst xs)) (h2 : H b = some (.lst zs)) (hs : xs.length + zs.length ≤ sizeLine) (q : ∀ p, H p = none → Q (.ref p) (upd H p (.lst (xs ++ zs)))) : rCat (.ref l) (.ref b) H Q :=
  ⟨l, b, xs, zs, rfl, rfl, h1, h2, hs, q⟩
/-! ### lists of tuples -/
section
variable {α : Type}
/-- at ts stand tuples, f of the xs -/
def TL (f : α → List V) (H : Hp) (ts : List Addr) (xs : List α) : Prop := ts.length = xs.length ∧ ∀ (i : Nat) (t : Addr), ts[i]? = some t → ∃ x, xs[i]? = some x ∧ H t = some (.tup (f x))
/-- at a stands a list of tuples, f of the xs -/
def LT (f : α → List V) (H : Hp) (a : Addr) (xs : List α) : Prop := ∃ ts : List Addr, H a = some (.lst (ts.map V.ref)) ∧ TL f H ts xs
variable {f : α → List V} {H H' : Hp} {ts : List Addr} {xs : List α} {a b : Addr}
theorem TL.nil : TL f H [] ([] : List α) := ⟨rfl, fun i t h => by simp at h⟩
theorem TL.same (h : TL f H ts xs) (s : Same H H') : TL f H' ts xs := ⟨h.1, fun i t e => let ⟨x, e1, e2⟩ := h.2 i t e; ⟨x, e1, s _ _ e2⟩⟩
theorem TL.but {o : List V} (h : TL f H ts xs) (s : But b H H') (hb : H b = some (.lst o)) : TL f H' ts xs := ⟨h.1, fun i t e => let ⟨x, e1, e2⟩ := h.2 i t e; ⟨x, e1, s _ _ (ne_of e2 hb (by intro z; cases z)) e2⟩⟩
theorem TL.snoc {t : Addr} {x : α} (h : TL f H ts xs) (ht : H t = some (.tup (f x))) : TL f H (ts ++ [t]) (xs ++ [x]) := by
  refine ⟨by rw [List.length_append, List.length_append, h.1]; rfl, fun i u e => ?_⟩
  by_cases hi : i < ts.length
  · rw [List.getElem?_append_left hi] at e
    obtain ⟨y, e1, e2⟩ := h.2 i u e
    exact ⟨y, by rw [List.getElem?_append_left (by rw [← h.1]; exact hi)]; exact e1, e2⟩
  · rw [List.getElem?_append_right (by omega)] at e
    have hi0 : i - ts.length = 0 := by
      by_cases q : i - ts.length = 0
      · exact q
      · rw [List.getElem?_eq_none (by simp; omega)] at e
        cases e
    rw [hi0] at e
    have e' : t = u := Option.some.inj e
    subst e'
    exact ⟨x, by rw [List.getElem?_append_right (by rw [← h.1]; omega), ← h.1, hi0]; rfl, ht⟩
theorem TL.get (h : TL f H ts xs) {i : Nat} {x : α} (e : xs[i]? = some x) : ∃ t, ts[i]? = some t ∧ H t = some (.tup (f x)) := by
  have hi : i < ts.length := by rw [h.1]; exact (List.getElem?_eq_some_iff.mp e).1
  obtain ⟨y, e1, e2⟩ := h.2 i _ (List.getElem?_eq_getElem hi)
  rw [e] at e1
  cases e1
  exact ⟨_, List.getElem?_eq_getElem hi, e2⟩
/-- an item of the list, read -/
theorem TL.at (h : TL f H ts xs) {i : Int} (h0 : 0 ≤ i) (h1 : i < (xs.length : Int)) : ∃ x t, xs[i.toNat]? = some x ∧ atI (ts.map V.ref) i = some (.ref t) ∧ H t = some (.tup (f x)) := by
  have hi : i.toNat < xs.length := by omega
  obtain ⟨t, e1, e2⟩ := h.get (List.getElem?_eq_getElem hi)
  refine ⟨_, t, List.getElem?_eq_getElem hi, ?_, e2⟩
  have e : i = ((i.toNat : Nat) : Int) := by omega
  rw [e]
  refine atI_nat ?_
  rw [List.getElem?_map, e1]
  rfl
theorem snoc_of {β : Type} : ∀ {l : List β}, l ≠ [] → ∃ G g, l = G ++ [g]
  | [], h => absurd rfl h
  | [x], _ => ⟨[], x, rfl⟩
  | x :: y :: r, _ => by
    obtain ⟨G, g, e⟩ := snoc_of (l := y :: r) (by simp)
    exact ⟨x :: G, g, by rw [e]; rfl⟩
theorem TL.unsnoc {ys : List α} {y : α} (h : TL f H ts (ys ++ [y])) : ∃ (ts0 : List Addr) (tl : Addr), ts = ts0 ++ [tl] ∧ TL f H ts0 ys ∧ H tl = some (.tup (f y)) := by
  have hl := h.1
  simp only [List.length_append, List.length_cons, List.length_nil] at hl
  obtain ⟨ts0, tl, rfl⟩ : ∃ ts0 tl, ts = ts0 ++ [tl] := by
    have hne : ts ≠ [] := by intro e; rw [e] at hl; simp at hl
    exact snoc_of hne
  simp only [List.length_append, List.length_cons, List.length_nil] at hl
  have hl' : ts0.length = ys.length := by omega
  refine ⟨ts0, tl, rfl, ⟨hl', fun i t e => ?_⟩, ?_⟩
  · have hi := (List.getElem?_eq_some_iff.mp e).1
    obtain ⟨x, e1, e2⟩ := h.2 i t (by rw [List.getElem?_append_left hi]; exact e)
    rw [List.getElem?_append_left (by omega)] at e1
    exact ⟨x, e1, e2⟩
  · obtain ⟨x, e1, e2⟩ := h.2 ts0.length tl (by rw [List.getElem?_append_right (Nat.le_refl _), Nat.sub_self]; rfl)
    rw [hl', List.getElem?_append_right (Nat.le_refl _), Nat.sub_self] at e1
    have e1' : y = x := Option.some.inj e1
    rw [e1']
    exact e2
theorem ixN_last (n : Nat) : ixN (n + 1) (-1) = some n := by
  unfold ixN
  rw [if_neg (by omega), if_pos (by omega)]
  congr 1
  omega
theorem set_last (ts : List Addr) (a b : Addr) : ((ts ++ [a]).map V.ref).set ts.length (V.ref b) = (ts ++ [b]).map V.ref := by
  rw [List.map_append, List.map_append, List.set_append_right _ _ (by rw [List.length_map]; exact Nat.le_refl _), List.length_map, Nat.sub_self]
  rfl
theorem TL.len (h : TL f H ts xs) : (ts.map V.ref).length = xs.length := by rw [List.length_map, h.1]
theorem LT.same (h : LT f H a xs) (s : Same H H') : LT f H' a xs := let ⟨ts, e, q⟩ := h; ⟨ts, s _ _ e, q.same s⟩
theorem LT.but {o : List V} (h : LT f H a xs) (s : But b H H') (hb : H b = some (.lst o)) (n : a ≠ b) : LT f H' a xs := let ⟨ts, e, q⟩ := h; ⟨ts, s _ _ n e, q.but s hb⟩
theorem TL.box (h : TL f H ts xs) (s : But b H H') {d : Addr} (B : Bx H b d) : TL f H' ts xs := let ⟨_, _, e, _⟩ := B; h.but s e
theorem LT.box (h : LT f H a xs) (s : But b H H') {d : Addr} (B : Bx H b d) (n : a ≠ b) : LT f H' a xs := let ⟨_, _, e, _⟩ := B; h.but s e n
end
/-- a block -/
@[reducible] def bV (b : Int × Int) : List V := [.int b.1, .int b.2]
theorem menu {ns : List Int} {r : Int} (h0 : 0 ≤ r) (h1 : r < (ns.length : Int)) : ∃ v, v ∈ ns ∧ atI (ns.map V.int) r = some (.int v) := by
  refine ⟨ns.getD r.toNat 0, ?_, at_int h0 h1⟩
  have hi : r.toNat < ns.length := by omega
  simp only [List.getD_eq_getElem?_getD]
  rw [List.getElem?_eq_getElem hi]
  exact List.getElem_mem hi
/-! ### isinstance -/
section
variable {K : PySem.W.Frag} {H : Hp} {Q : VK}
theorem r_isi {x : V} {t T : String} {b : Bool} (ty : TyOf K H x (.type t)) (e : kitB t T = some b) (q : Q (.bl b) H) : rIsi K [x, .ty T] H Q := ⟨x, _, _, _, b, rfl, .ty T, .base ty, kit_ty e, q⟩
theorem kit_bb : kitB "bool" "bool" = some true := by decide +kernel
theorem kit_ii : kitB "int" "int" = some true := by decide +kernel
theorem kit_ib : kitB "int" "bool" = some false := by decide +kernel
theorem kit_bi : kitB "bool" "int" = some true := by decide +kernel
theorem kit_nb : kitB "NoneType" "bool" = some false := by decide +kernel
theorem kit_nt : kitB "NoneType" "tuple" = some false := by decide +kernel
theorem kit_ll : kitB "list" "list" = some true := by decide +kernel
theorem kit_tt : kitB "tuple" "tuple" = some true := by decide +kernel
theorem kit_ss : kitB "str" "str" = some true := by decide +kernel
theorem kit_lt : kitB "list" "tuple" = some false := by decide +kernel
theorem kit_tl : kitB "tuple" "list" = some false := by decide +kernel
theorem r_isi_ib {i : Int} (q : Q (.bl false) H) : rIsi K [.int i, .ty "bool"] H Q := r_isi (.int i) kit_ib q
theorem r_isi_ii {i : Int} (q : Q (.bl true) H) : rIsi K [.int i, .ty "int"] H Q := r_isi (.int i) kit_ii q
theorem r_isi_bb {i : Bool} (q : Q (.bl true) H) : rIsi K [.bl i, .ty "bool"] H Q := r_isi (.bl i) kit_bb q
theorem r_isi_nb (q : Q (.bl false) H) : rIsi K [.non, .ty "bool"] H Q := r_isi .non kit_nb q
theorem r_isi_nt (q : Q (.bl false) H) : rIsi K [.non, .ty "tuple"] H Q := r_isi .non kit_nt q
theorem r_isi_ll {a : Addr} {xs : List V} (e : H a = some (.lst xs)) (q : Q (.bl true) H) : rIsi K [.ref a, .ty "list"] H Q := r_isi (.lst e) kit_ll q
theorem r_isi_tt {a : Addr} {xs : List V} (e : H a = some (.tup xs)) (q : Q (.bl true) H) : rIsi K [.ref a, .ty "tuple"] H Q := r_isi (.tup e) kit_tt q
end
theorem ite_notT {A B : Prop} (h : B) : if (!true) = true then A else B := h
theorem ite_notF {A B : Prop} (h : A) : if (!false) = true then A else B := h
/-! ### data at any depth -/
class Enc (α : Type) [DecidableEq α] where
  enc : α → PyData
  dep : Nat
  lay : ∀ x, (enc x).canLay0 = true
  dle : ∀ x, (enc x).depth ≤ dep
  eqv : ∀ x y, PyData.eqv (enc x) (enc y) = decide (x = y)
open Enc (enc)
instance encInt : Enc Int := ⟨.int, 0, fun _ => rfl, fun _ => Nat.le_refl _, fun x y => by rw [PyData.eqv]; exact Bool.beq_eq_decide_eq x y⟩
instance encBool : Enc Bool := ⟨.bool, 0, fun _ => rfl, fun _ => Nat.le_refl _, fun x y => by rw [PyData.eqv]; exact Bool.beq_eq_decide_eq x y⟩
theorem layAll {α : Type} [DecidableEq α] [Enc α] : ∀ xs : List α, PyData.canLayAll0 (xs.map enc) = true
  | [] => rfl
  | x :: xs => by rw [List.map_cons, PyData.canLayAll0, Enc.lay x, layAll xs]; rfl
theorem depAll {α : Type} [DecidableEq α] [Enc α] : ∀ xs : List α, PyData.depthAll (xs.map enc) ≤ Enc.dep α
  | [] => by rw [List.map_nil, PyData.depthAll]; exact Nat.zero_le _
  | x :: xs => by
    have h1 := depAll xs
    have h2 := Enc.dle x
    rw [List.map_cons]
    rw [PyData.depthAll]
    omega
theorem eqvAll {α : Type} [DecidableEq α] [Enc α] : ∀ xs ys : List α, PyData.eqvAll (xs.map enc) (ys.map enc) = decide (xs = ys)
  | .nil, .nil => by rw [List.map_nil, PyData.eqvAll]; exact (decide_eq_true rfl).symm
  | .nil, .cons b m => by simp [PyData.eqvAll, List.map_cons]
  | .cons a l, .nil => by simp [PyData.eqvAll, List.map_cons]
  | x :: xs, y :: ys => by
    rw [List.map_cons, List.map_cons, PyData.eqvAll, Enc.eqv, eqvAll xs ys]
    by_cases h : x = y <;> by_cases h' : xs = ys <;> simp [h, h']
instance encList {α : Type} [DecidableEq α] [Enc α] : Enc (List α) := ⟨fun xs => .list (xs.map enc), Enc.dep α + 1, fun xs => by rw [PyData.canLay0]; exact layAll xs,
  fun xs => by have := depAll xs; rw [PyData.depth]; omega, fun xs ys => by rw [PyData.eqv]; exact eqvAll xs ys⟩
instance encPair {α β : Type} [DecidableEq α] [DecidableEq β] [Enc α] [Enc β] : Enc (α × β) := ⟨fun x => .tuple [enc x.1, enc x.2], max (Enc.dep α) (Enc.dep β) + 1,
  fun x => by rw [PyData.canLay0, PyData.canLayAll0, PyData.canLayAll0, PyData.canLayAll0, Enc.lay, Enc.lay]; rfl,
  fun x => by
    have h1 := Enc.dle x.1
    have h2 := Enc.dle x.2
    rw [PyData.depth, PyData.depthAll, PyData.depthAll, PyData.depthAll]
    omega,
  fun x y => by
    rw [PyData.eqv, PyData.eqvAll, PyData.eqvAll, PyData.eqvAll, Enc.eqv, Enc.eqv]
    obtain ⟨a, b⟩ := x
    obtain ⟨c, d⟩ := y
    by_cases h : a = c <;> by_cases h' : b = d <;> simp [h, h']⟩
theorem shapedE {α : Type} [DecidableEq α] [Enc α] (hd : Enc.dep α ≤ 64) (x : α) : SeqAt.shaped (enc x) = true := by
  have h := Enc.dle x
  show ((enc x).canLay0 && decide ((enc x).depth ≤ 64)) = true
  rw [Bool.and_eq_true]
  exact ⟨Enc.lay x, decide_eq_true (by omega)⟩
theorem Same.sqT {K : PySem.W.Frag} {H H' : Hp} {a : Addr} {xs : List V} (e : Same H H') (h : SqT K H a xs) : SqT K H' a xs := by
  rcases h with (z | ⟨u, z⟩) | z
  · exact .inl (.inl (e _ _ z))
  · exact .inl (.inr ⟨u, e _ _ z⟩)
  · exact .inr z
mutual
theorem Dp.same {K : PySem.W.Frag} {H H' : Hp} (s : Same H H') : ∀ (d : PyData) (v : V), Dp K H v d → Dp K H' v d
  | .none, _, h => by cases h; exact .non
  | .bool b, _, h => by cases h; exact .bl b
  | .int i, _, h => by cases h; exact .int i
  | .str x, _, h => by cases h; exact .str x
  | .list ds, _, h => by
    cases h with
    | lst a b => exact .lst (s.seq a) (DpAll.same s ds _ b)
  | .tuple ds, _, h => by
    cases h with
    | tup a b => exact .tup (Same.sqT s a) (DpAll.same s ds _ b)
  | .dict _, _, h => by cases h
theorem DpAll.same {K : PySem.W.Frag} {H H' : Hp} (s : Same H H') : ∀ (ds : List PyData) (vs : List V), DpAll K H vs ds → DpAll K H' vs ds
  | [], _, h => by cases h; exact .nil
  | d :: ds, _, h => by
    cases h with
    | cons a b => exact .cons (Dp.same s d _ a) (DpAll.same s ds _ b)
end
/-- the value v is the datum x -/
def Is {α : Type} [DecidableEq α] [Enc α] (K : PySem.W.Frag) (H : Hp) (v : V) (x : α) : Prop := Dp K H v (enc x)
section
variable {K : PySem.W.Frag} {H H' : Hp} {Q : VK}
theorem Is.same {α : Type} [DecidableEq α] [Enc α] {v : V} {x : α} (h : Is K H v x) (s : Same H H') : Is K H' v x := Dp.same s _ _ h
theorem is_int {i : Int} : Is K H (.int i) i := .int i
theorem is_bl {i : Bool} : Is K H (.bl i) i := .bl i
theorem dpAll_ints : ∀ ns : List Int, DpAll K H (ns.map V.int) (ns.map enc)
  | [] => .nil
  | n :: ns => .cons (.int n) (dpAll_ints ns)
theorem is_ints {a : Addr} {ns : List Int} (h : SqL K H a (ns.map V.int)) : Is K H (.ref a) ns := .lst h (dpAll_ints ns)
theorem is_pair {α β : Type} [DecidableEq α] [DecidableEq β] [Enc α] [Enc β] {a : Addr} {u v : V} {x : α} {y : β} (h : SqT K H a [u, v]) (h1 : Is K H u x) (h2 : Is K H v y) : Is K H (.ref a) (x, y) := .tup h (.cons h1 (.cons h2 .nil))
theorem TL.dp : ∀ {ts : List Addr} {bs : List (Int × Int)}, TL bV H ts bs → DpAll K H (ts.map V.ref) (bs.map enc)
  | [], [], _ => .nil
  | [], _ :: _, h => by have := h.1; simp at this
  | _ :: _, [], h => by have := h.1; simp at this
  | t :: ts, b :: bs, h => by
    obtain ⟨x, e1, e2⟩ := h.2 0 t rfl
    have e1' : b = x := Option.some.inj e1
    subst e1'
    refine .cons (is_pair (SqT.of e2) is_int is_int) (TL.dp ⟨by have := h.1; simpa using this, fun i t' e => ?_⟩)
    obtain ⟨x, e3, e4⟩ := h.2 (i + 1) t' (by simpa using e)
    exact ⟨x, by simpa using e3, e4⟩
theorem LT.is {a : Addr} {bs : List (Int × Int)} (h : LT bV H a bs) : Is K H (.ref a) bs := let ⟨_, e, t⟩ := h; .lst (SqL.of e) t.dp
theorem r_neE {α : Type} [DecidableEq α] [Enc α] {u v : V} {x y : α} (h1 : Is K H u x) (h2 : Is K H v y) (hd : Enc.dep α ≤ 64) (q : Q (.bl (!decide (x = y))) H) : rNeD K u v H Q :=
  ⟨_, _, h1, h2, shapedE hd x, shapedE hd y, by rw [Enc.eqv]; exact q⟩
theorem r_neSame {u v : V} {d : PyData} (h1 : Dp K H u d) (h2 : Dp K H v d) (hs : SeqAt.shaped d = true) (q : Q (.bl false) H) : rNeD K u v H Q :=
  ⟨_, _, h1, h2, hs, hs, by rw [SeqAt.eqv_refl d (SeqAt.canLay_of_shaped hs)]; exact q⟩
theorem r_eqSame {u v : V} {d : PyData} (h1 : Dp K H u d) (h2 : Dp K H v d) (hs : SeqAt.shaped d = true) (q : Q (.bl true) H) : rEqD K u v H Q :=
  ⟨_, _, h1, h2, hs, hs, by rw [SeqAt.eqv_refl d (SeqAt.canLay_of_shaped hs)]; exact q⟩
theorem first_at {β : Type} {x : β} : ∀ {xs : List β}, x ∈ xs → ∃ j : Nat, xs[j]? = some x ∧ ∀ m : Nat, m < j → xs[m]? ≠ some x
  | y :: xs, h => by
    by_cases e : y = x
    · exact ⟨0, by rw [e]; rfl, fun m hm => by omega⟩
    · obtain h | h := List.mem_cons.mp h
      · exact absurd h.symm e
      · obtain ⟨j, h1, h2⟩ := first_at h
        refine ⟨j + 1, by simpa using h1, fun m hm => ?_⟩
        cases m with
        | zero => intro q; exact e (Option.some.inj q)
        | succ m => have := h2 m (by omega); simpa using this
theorem r_indexE {α : Type} [DecidableEq α] [Enc α] {a : Addr} {y : V} {xs : List α} {x : α} (h1 : Is K H (.ref a) xs) (h2 : Is K H y x) (hd : Enc.dep α + 1 ≤ 64) (hm : x ∈ xs) (q : ∀ j : Nat, xs[j]? = some x → Q (.int j) H) : rIndexD K (.ref a) [y] H Q := by
  obtain ⟨j, e1, e2⟩ := first_at hm
  refine ⟨a, y, enc x, xs.map enc, j, enc x, rfl, rfl, h1, h2, shapedE (α := List α) hd xs, shapedE (by omega) x, by rw [List.getElem?_map, e1]; rfl, by rw [Enc.eqv]; simp, fun m z' hm' hz => ?_, q j e1⟩
  rw [List.getElem?_map] at hz
  obtain ⟨u, hu, rfl⟩ := Option.map_eq_some_iff.mp hz
  rw [Enc.eqv]
  exact decide_eq_false fun e => e2 m hm' (by rw [hu, e])
theorem r_eqE {α : Type} [DecidableEq α] [Enc α] {u v : V} {x y : α} (h1 : Is K H u x) (h2 : Is K H v y) (hd : Enc.dep α ≤ 64) (q : Q (.bl (decide (x = y))) H) : rEqD K u v H Q :=
  ⟨_, _, h1, h2, shapedE hd x, shapedE hd y, by rw [Enc.eqv]; exact q⟩
end
/-! ### valid layouts -/
def VL (size : Int) : Int → List (Int × Int) → Prop
  | e, [] => e ≤ size
  | e, (s, l) :: r => e ≤ s ∧ 1 ≤ l ∧ VL size (s + l) r
def endOf : Int → List (Int × Int) → Int
  | e, [] => e
  | _, (s, l) :: r => endOf (s + l) r
theorem VL.snoc {size s l : Int} : ∀ {bs : List (Int × Int)} {e : Int}, VL size e bs → endOf e bs ≤ s → 1 ≤ l → s + l ≤ size → VL size e (bs ++ [(s, l)])
  | [], e, h, h1, h2, h3 => ⟨h1, h2, h3⟩
  | (a, c) :: r, e, h, h1, h2, h3 => ⟨h.1, h.2.1, VL.snoc h.2.2 h1 h2 h3⟩
theorem endOf_snoc {s l : Int} : ∀ (bs : List (Int × Int)) (e : Int), endOf e (bs ++ [(s, l)]) = s + l
  | [], _ => rfl
  | (a, c) :: r, _ => endOf_snoc r (a + c)
theorem VL.end_le {size : Int} : ∀ {bs : List (Int × Int)} {e : Int}, VL size e bs → endOf e bs ≤ size
  | [], _, h => h
  | (s, l) :: r, _, h => VL.end_le (bs := r) (e := s + l) h.2.2
theorem VL.le_size {size : Int} : ∀ {bs : List (Int × Int)} {e : Int}, VL size e bs → e ≤ size
  | [], _, h => h
  | (s, l) :: r, e, h => by
    have := VL.le_size h.2.2
    have := h.1
    have := h.2.1
    omega
theorem VL.mem {size : Int} : ∀ {bs : List (Int × Int)} {e : Int}, VL size e bs → ∀ x ∈ bs, e ≤ x.1 ∧ 1 ≤ x.2 ∧ x.1 + x.2 ≤ size
  | (s, l) :: r, e, h, x, hx => by
    obtain rfl | hx := List.mem_cons.mp hx
    · exact ⟨h.1, h.2.1, h.2.2.le_size⟩
    · have := VL.mem h.2.2 x hx
      have h1 := h.1
      have h2 := h.2.1
      omega
theorem VL.pw {size : Int} : ∀ {bs : List (Int × Int)} {e : Int}, VL size e bs → bs.Pairwise (fun a b => a.1 + a.2 ≤ b.1)
  | [], _, _ => .nil
  | (s, l) :: r, e, h => List.pairwise_cons.mpr ⟨fun x hx => (VL.mem h.2.2 x hx).1, VL.pw h.2.2⟩
/-- the cell's value: one more than the index of its block, or 0 -/
def cellOf (at_ : Int) : Int → List (Int × Int) → Int
  | _, [] => 0
  | k, (s, l) :: r => if s ≤ at_ ∧ at_ < s + l then k + 1 else cellOf at_ (k + 1) r
def Covers (bs : List (Int × Int)) (at_ : Int) : Prop := ∃ x ∈ bs, x.1 ≤ at_ ∧ at_ < x.1 + x.2
theorem cellOf_zero {at_ : Int} : ∀ {bs : List (Int × Int)} {k : Int}, 0 ≤ k → (cellOf at_ k bs = 0 ↔ ¬ Covers bs at_)
  | [], k, _ => by simp [cellOf, Covers]
  | (s, l) :: r, k, hk => by
    unfold cellOf
    by_cases c : s ≤ at_ ∧ at_ < s + l
    · rw [if_pos c]
      constructor
      · intro h; omega
      · intro h; exact absurd ⟨(s, l), List.mem_cons_self, c⟩ h
    · rw [if_neg c, cellOf_zero (bs := r) (by omega)]
      constructor
      · rintro h ⟨x, hx, hc⟩
        obtain rfl | hx := List.mem_cons.mp hx
        · exact c hc
        · exact h ⟨x, hx, hc⟩
      · rintro h ⟨x, hx, hc⟩
        exact h ⟨x, List.mem_cons_of_mem _ hx, hc⟩
theorem cellOf_take {at_ : Int} {size : Int} : ∀ {bs : List (Int × Int)} {e k : Int} {j : Nat} {x : Int × Int}, VL size e bs → bs[j]? = some x → (x.1 ≤ at_ ∧ at_ < x.1 + x.2) → cellOf at_ k bs = k + j + 1
  | (s, l) :: r, e, k, 0, x, h, ex, hc => by
    have e' : (s, l) = x := Option.some.inj ex
    subst e'
    unfold cellOf
    rw [if_pos hc]
    simp
  | (s, l) :: r, e, k, j + 1, x, h, ex, hc => by
    have ex' : r[j]? = some x := by simpa using ex
    have hm := VL.mem h.2.2 x (List.mem_of_getElem? ex')
    unfold cellOf
    rw [if_neg (by omega), cellOf_take h.2.2 ex' hc]
    omega
theorem cellOf_snoc {at_ : Int} {size : Int} : ∀ {bs : List (Int × Int)} {e c : Int} {k : Nat} {x : Int × Int}, VL size e bs → bs[k]? = some x → cellOf at_ c (bs.take (k + 1)) = if x.1 ≤ at_ ∧ at_ < x.1 + x.2 then c + k + 1 else cellOf at_ c (bs.take k)
  | (s, l) :: r, e, c, 0, x, h, ex => by
    have e' : (s, l) = x := Option.some.inj ex
    subst e'
    show cellOf at_ c [(s, l)] = _
    unfold cellOf
    simp only [List.take_zero, cellOf]
    simp
  | (s, l) :: r, e, c, k + 1, x, h, ex => by
    have ex' : r[k]? = some x := by simpa using ex
    have hm := VL.mem h.2.2 x (List.mem_of_getElem? ex')
    have ih := cellOf_snoc (at_ := at_) (c := c + 1) h.2.2 ex'
    rw [List.take_succ_cons, List.take_succ_cons, cellOf, cellOf, ih]
    by_cases q : s ≤ at_ ∧ at_ < s + l
    · rw [if_pos q, if_pos q, if_neg (by omega)]
    · rw [if_neg q, if_neg q]
      by_cases q2 : x.1 ≤ at_ ∧ at_ < x.1 + x.2
      · rw [if_pos q2, if_pos q2]; omega
      · rw [if_neg q2, if_neg q2]
def CellsOf (size : Int) (bs : List (Int × Int)) (cs : List Int) : Prop := (cs.length : Int) = size ∧ ∀ i, i < cs.length → cs[i]? = some (cellOf i 0 bs)
/-! ### maximal rows of zeros -/
def runsTo (c : Nat → Int) : Nat → List (Int × Int)
  | 0 => []
  | i + 1 => if c i = 0 then (if 0 < i ∧ c (i - 1) = 0 then (runsTo c i).dropLast ++ [(((runsTo c i).getLastD (0, 0)).1, ((runsTo c i).getLastD (0, 0)).2 + 1)] else runsTo c i ++ [((i : Int), 1)]) else runsTo c i
theorem runsTo_ne {c : Nat → Int} : ∀ {i : Nat}, 0 < i → c (i - 1) = 0 → runsTo c i ≠ []
  | i + 1, _, h => by
    rw [Nat.add_sub_cancel] at h
    rw [runsTo, if_pos h]
    split <;> simp
theorem runsTo_len {c : Nat → Int} : ∀ i : Nat, (runsTo c i).length ≤ i
  | 0 => Nat.le_refl _
  | i + 1 => by
    have ih := runsTo_len (c := c) i
    rw [runsTo]
    split
    · split
      · rename_i h
        have := runsTo_ne h.1 h.2
        have : 0 < (runsTo c i).length := List.length_pos_iff.mpr this
        simp
        omega
      · simp
        omega
    · omega
def gapsF (size : Int) : Int → List (Int × Int) → List (Int × Int)
  | e, [] => if size > e then [(e, size - e)] else []
  | e, (s, l) :: r => if s > e then (e, s - e) :: gapsF size (s + l) r else gapsF size (s + l) r
theorem runs_free {c : Nat → Int} {e : Nat} {G : List (Int × Int)} (h0 : runsTo c e = G) (hp : e = 0 ∨ c (e - 1) ≠ 0) : ∀ m : Nat, (∀ i, e ≤ i → i < e + m → c i = 0) → runsTo c (e + m) = if 0 < m then G ++ [((e : Int), (m : Int))] else G
  | 0, _ => by simpa using h0
  | m + 1, h => by
    have ih := runs_free h0 hp m (fun i h1 h2 => h i h1 (by omega))
    have hc : c (e + m) = 0 := h _ (by omega) (by omega)
    show runsTo c ((e + m) + 1) = _
    rw [runsTo, if_pos hc, ih]
    by_cases hm : 0 < m
    · have h1 : c (e + m - 1) = 0 := h _ (by omega) (by omega)
      rw [if_pos ⟨by omega, h1⟩, if_pos hm, if_pos (Nat.succ_pos _)]
      simp
    · have hm0 : m = 0 := by omega
      subst hm0
      rw [if_neg hm, if_pos (Nat.succ_pos _), if_neg (by
        rintro ⟨h1, h2⟩
        rcases hp with h3 | h3
        · omega
        · exact h3 h2)]
      simp
theorem runs_used {c : Nat → Int} {s : Nat} : ∀ m : Nat, (∀ i, s ≤ i → i < s + m → c i ≠ 0) → runsTo c (s + m) = runsTo c s
  | 0, _ => rfl
  | m + 1, h => by
    show runsTo c ((s + m) + 1) = _
    rw [runsTo, if_neg (h _ (by omega) (by omega))]
    exact runs_used m (fun i h1 h2 => h i h1 (by omega))
theorem runs_gaps {c : Nat → Int} {n : Nat} : ∀ {bs : List (Int × Int)} {e : Nat} {G : List (Int × Int)}, VL n e bs → (∀ i : Nat, e ≤ i → i < n → (c i = 0 ↔ ¬ Covers bs i)) → runsTo c e = G → (e = 0 ∨ c (e - 1) ≠ 0) → runsTo c n = G ++ gapsF n e bs
  | [], e, G, h, hc, h0, hp => by
    have h' : e ≤ n := by have : (e : Int) ≤ n := h; omega
    obtain ⟨m, rfl⟩ : ∃ m, n = e + m := ⟨n - e, by omega⟩
    rw [runs_free h0 hp m (fun i h1 h2 => (hc i h1 h2).mpr (by simp [Covers])), gapsF]
    by_cases hm : 0 < m
    · rw [if_pos hm, if_pos (by omega)]
      congr 3
      omega
    · rw [if_neg hm, if_neg (by omega)]
      simp
  | (s, l) :: r, e, G, h, hc, h0, hp => by
    obtain ⟨h1, h2, h3⟩ := h
    have h4 := h3.le_size
    obtain ⟨s', rfl⟩ : ∃ s' : Nat, s = s' := ⟨s.toNat, by omega⟩
    obtain ⟨l', rfl⟩ : ∃ l' : Nat, l = l' := ⟨l.toNat, by omega⟩
    obtain ⟨m, rfl⟩ : ∃ m, s' = e + m := ⟨s' - e, by omega⟩
    have nc : ∀ i : Nat, i < e + m → ¬ Covers ((((e + m : Nat) : Int), (l' : Int)) :: r) i := by
      rintro i hi ⟨x, hx, hcx⟩
      obtain rfl | hx := List.mem_cons.mp hx
      · simp only at hcx; omega
      · have := VL.mem h3 x hx
        omega
    have a1 := runs_free h0 hp m (fun i q1 q2 => (hc i q1 (by omega)).mpr (nc i q2))
    have a2 := runs_used (c := c) (s := e + m) l' (fun i q1 q2 q3 => (hc i (by omega) (by omega)).mp q3 ⟨_, List.mem_cons_self, by simp only; omega⟩)
    rw [a1] at a2
    have a3 := runs_gaps (c := c) (n := n) (bs := r) (e := e + m + l') (by rw [Int.natCast_add]; exact h3) (fun i q1 q2 => by
      rw [hc i (by omega) q2]
      constructor
      · rintro q3 ⟨x, hx, hcx⟩
        exact q3 ⟨x, List.mem_cons_of_mem _ hx, hcx⟩
      · rintro q3 ⟨x, hx, hcx⟩
        obtain rfl | hx := List.mem_cons.mp hx
        · simp only at hcx; omega
        · exact q3 ⟨x, hx, hcx⟩) a2 (.inr (fun q => (hc (e + m + l' - 1) (by omega) (by omega)).mp q ⟨_, List.mem_cons_self, by simp only; omega⟩))
    rw [a3, gapsF, Int.natCast_add (e + m) l']
    by_cases hm : 0 < m
    · rw [if_pos hm, if_pos (by omega)]
      simp
      omega
    · rw [if_neg hm, if_neg (by omega)]
/-! ### max(xs, default=d) -/
def rMaxD (K : PySem.W.Frag) : List V → List V → Hp → VK → Prop := fun vs zs H Q => ∃ (a : Addr) (ns : List Int) (d : Int), vs = [V.ref a] ∧ zs = [V.int d] ∧ SqL K H a (ns.map V.int) ∧
  Q (.int (match ns with | [] => d | n :: r => r.foldl max n)) H
theorem alike_ints (ns : List Int) : PySem.W.AlikeAll (ns.map PyData.int) := by
  refine ⟨fun x hx y hy => ?_, fun x hx => ?_⟩
  · obtain ⟨i, _, rfl⟩ := List.mem_map.mp hx
    obtain ⟨j, _, rfl⟩ := List.mem_map.mp hy
    rfl
  · obtain ⟨i, _, rfl⟩ := List.mem_map.mp hx
    intro h
    cases h
theorem cr_maxD {X : Cx} {k : Nat} (hc : X.calm = true) (hr : Room k X.A) : CallRK X (.builtin "max") [Str.ofString "default"] (rMaxD X.K) := by
  rintro pins s σ H vs zs us ws Q I r rz ⟨a, ns, d, rfl, rfl, hs, q⟩
  obtain rfl := Vals.ref1 r
  obtain ⟨w1, rfl, td, rfl⟩ := vals1 rz
  rcases I.list hs with ⟨its, rv, hl, -⟩
  obtain ⟨as, hra⟩ := Dp.readsAll I (ns.map PyData.int) _ its (dpAll_ints ns) rv
  have hu := hr.units
  refine PySem.W.max_list_default (I.ok.hd hc) hl.isList hra (alike_ints ns) (by rw [PySem.W.ke_depthAll]; omega) (fun e h' tk hk => ?_) (fun y ys i v h' tk bs e hv hrd hk => ?_)
  · cases ns with
    | nil => exact ⟨.int d, H, I.kept hk, ⟨_, rfl⟩, q⟩
    | cons n r => cases e
  · cases ns with
    | nil => cases e
    | cons n r =>
      rw [List.map_cons] at e
      injection e with e1 e2
      subst e1 e2
      rw [PySem.W.maxD_ints] at hrd
      cases hrd with
      | int i t => exact ⟨.int _, H, I.kept hk, ⟨_, rfl⟩, q⟩
/-! ### slices -/
theorem cut_take {xs : List V} {i : Nat} (h : i ≤ xs.length) : cutV xs none (some (i : Int)) = xs.take i := by
  unfold cutV
  rw [HT.sIx_none, HT.sIx_nat, List.drop_zero, Nat.sub_zero, Nat.min_eq_left h]
theorem cut_drop {xs : List V} {i : Nat} (h : i ≤ xs.length) : cutV xs (some (i : Int)) none = xs.drop i := by
  unfold cutV
  rw [HT.sIx_none, HT.sIx_nat, Nat.min_eq_left h, List.take_of_length_le]
  rw [List.length_drop]
  exact Nat.le_refl _
theorem TL.take {α : Type} {f : α → List V} {H : Hp} {ts : List Addr} {xs : List α} (h : TL f H ts xs) (n : Nat) : TL f H (ts.take n) (xs.take n) := by
  refine ⟨by rw [List.length_take, List.length_take, h.1], fun i t e => ?_⟩
  rw [List.getElem?_take] at e
  split at e
  · rename_i hi
    obtain ⟨x, e1, e2⟩ := h.2 i t e
    exact ⟨x, by rw [List.getElem?_take, if_pos hi]; exact e1, e2⟩
  · cases e
theorem TL.drop {α : Type} {f : α → List V} {H : Hp} {ts : List Addr} {xs : List α} (h : TL f H ts xs) (n : Nat) : TL f H (ts.drop n) (xs.drop n) := by
  refine ⟨by rw [List.length_drop, List.length_drop, h.1], fun i t e => ?_⟩
  rw [List.getElem?_drop] at e ⊢
  exact h.2 _ t e
theorem TL.append {α : Type} {f : α → List V} {H : Hp} {ts us : List Addr} {xs ys : List α} (h : TL f H ts xs) (h' : TL f H us ys) : TL f H (ts ++ us) (xs ++ ys) := by
  refine ⟨by rw [List.length_append, List.length_append, h.1, h'.1], fun i t e => ?_⟩
  by_cases hi : i < ts.length
  · rw [List.getElem?_append_left hi] at e
    obtain ⟨x, e1, e2⟩ := h.2 i t e
    exact ⟨x, by rw [List.getElem?_append_left (by rw [← h.1]; exact hi)]; exact e1, e2⟩
  · rw [List.getElem?_append_right (by omega)] at e
    obtain ⟨x, e1, e2⟩ := h'.2 _ t e
    exact ⟨x, by rw [List.getElem?_append_right (by rw [← h.1]; omega), ← h.1]; exact e1, e2⟩
/-! ### lists of ints that rise -/
theorem inc_ext : ∀ {l m : List Int}, l.Pairwise (· < ·) → m.Pairwise (· < ·) → (∀ x, x ∈ l ↔ x ∈ m) → l = m
  | [], [], _, _, _ => rfl
  | [], y :: m, _, _, h => absurd ((h y).mpr List.mem_cons_self) (by simp)
  | x :: l, [], _, _, h => absurd ((h x).mp List.mem_cons_self) (by simp)
  | .cons x l, .cons y m, hl, hm, h => by
    obtain ⟨l1, l2⟩ := List.pairwise_cons.mp hl
    obtain ⟨m1, m2⟩ := List.pairwise_cons.mp hm
    have e : x = y := by
      have a1 := (h x).mp List.mem_cons_self
      have a2 := (h y).mpr List.mem_cons_self
      obtain a1 | a1 := List.mem_cons.mp a1
      · exact a1
      · obtain a2 | a2 := List.mem_cons.mp a2
        · exact a2.symm
        · have := m1 x a1
          have := l1 y a2
          omega
    subst e
    rw [inc_ext l2 m2 fun z => ?_]
    constructor
    · intro hz
      rcases List.mem_cons.mp ((h z).mp (List.mem_cons_of_mem _ hz)) with e | q
      · have := l1 z hz
        omega
      · exact q
    · intro hz
      rcases List.mem_cons.mp ((h z).mpr (List.mem_cons_of_mem _ hz)) with e | q
      · have := m1 z hz
        omega
      · exact q
/-- the same in the order of pairs -/
def LexLe (a b : Int × Int) : Prop := a.1 < b.1 ∨ (a.1 = b.1 ∧ a.2 ≤ b.2)
theorem lex_uniq {l m : List (Int × Int)} (hl : l.Pairwise LexLe) (hm : m.Pairwise LexLe) (h : l.Perm m) : l = m := by
  refine List.Perm.eq_of_pairwise (le := LexLe) (fun a b _ _ h1 h2 => ?_) hl hm h
  unfold LexLe at h1 h2
  obtain ⟨a1, a2⟩ := a
  obtain ⟨b1, b2⟩ := b
  simp only at h1 h2
  rw [Prod.mk.injEq]
  omega
theorem VL.lex {size e : Int} {bs : List (Int × Int)} (h : VL size e bs) : bs.Pairwise LexLe := by
  have hm := h.mem
  refine (List.Pairwise.and_mem.mp h.pw).imp fun {a b} q => ?_
  have := hm a q.1
  unfold LexLe
  omega
end Pf

namespace Pf
open PySem L2
local macro_rules | `(tactic| walk_at "rd1") => `(tactic| first
  | with_reducible refine r_seqA ?_
  | with_reducible refine r_seqD ?_
  | with_reducible refine r_seqF ?_
  | with_reducible refine r_seqN ?_
  | with_reducible refine r_asg ?_
  | with_reducible refine r_drop ?_
  | with_reducible refine r_ret ?_
  | with_reducible refine r_ifS ?_
  | ((with_reducible refine r_next ?_); try dsimp only)
  | ((with_reducible refine r_name ?_); try dsimp only [List.set_cons_succ, List.set_cons_zero, wipe])
  | ((with_reducible refine' r_var ?rdh ?_); (case rdh => rfl))
  | with_reducible refine r_c ?_
  | with_reducible refine r_op ?_
  | with_reducible refine r_un ?_
  | with_reducible refine r_I0 ?_
  | ((with_reducible refine r_I ?_ ?_); (· first | decide | exact Or.inl (by decide) | exact Or.inr (by decide) | (show _ ∧ _; constructor <;> decide) | (show (0:Int) < _; omega) | (show CDiv _ _; unfold CDiv; omega) ))
  | with_reducible refine r_U ?_
  | with_reducible refine r_eqI ?_
  | with_reducible refine r_neI ?_
  | with_reducible refine r_eqB ?_
  | with_reducible refine r_neB ?_
  | with_reducible refine r_test ?_
  | with_reducible refine r_B ?_
  | with_reducible refine r_bl ?_
  | with_reducible refine r_bl2 ?_
  | with_reducible refine r_yes ?_
  | with_reducible refine r_wipe (by rfl) ?_
  | with_reducible refine r_rfl ?_
  | ((with_reducible refine' r_eqA ?rdh ?_); (case rdh => rfl))
  | with_reducible refine r_and ?_
  | with_reducible refine r_or ?_
  | with_reducible refine r_not ?_
  | with_reducible refine r_andV ?_
  | with_reducible refine r_orV ?_
  | with_reducible refine r_notV ?_
  | with_reducible refine r_ifE ?_
  | with_reducible refine r_nil ?_
  | with_reducible refine r_cons ?_
  | with_reducible refine r_tup ?_
  | with_reducible refine r_lst ?_
  | with_reducible refine r_CB ?_
  | with_reducible refine r_call ?_
  | with_reducible refine r_bm ?_
  | with_reducible refine r_bm0 ?_
  | with_reducible refine r_int ?_
  | with_reducible refine r_i2 ?_
  | with_reducible refine r_i1 ?_
  | with_reducible refine r_gcons ?_
  | with_reducible refine r_gnil ?_
  | with_reducible refine r_gsub ?_
  | with_reducible refine iteT ?_
  | with_reducible refine iteF ?_
  | with_reducible refine ite_notT ?_
  | with_reducible refine ite_notF ?_
  | with_reducible refine r_isi_ib ?_
  | with_reducible refine r_isi_ii ?_
  | with_reducible refine r_isi_bb ?_
  | with_reducible refine r_isi_nb ?_
  | with_reducible refine r_isi_nt ?_
  | ((with_reducible refine' r_isi_ll ?rdh ?_); (case rdh => first | assumption | exact upd_same))
  | ((with_reducible refine' r_isi_tt ?rdh ?_); (case rdh => first | assumption | exact upd_same))
  | with_reducible refine r_sl ?_
  | with_reducible refine r_noPart ?_
  | with_reducible refine r_part ?_
  | with_reducible refine r_int1 ?_
  | with_reducible refine r_tru ?_
  | with_reducible refine r_ckw ?_
  | with_reducible refine r_lc ?_
  | with_reducible refine r_lc2 ?_
  | with_reducible refine r_forS ?_
  | with_reducible refine r_iR1 ?_
  | with_reducible refine r_iR2 ?_
  | with_reducible refine r_iL ?_
  | ((with_reducible refine' r_lenL ?rdh ?_); (case rdh => walk_at "sq"))
  | ((with_reducible refine' r_ixL ?rdh ?rda ?_); (case rdh => walk_at "sq"); (case rda => walk_at "at"))
  | ((with_reducible refine' r_ixT ?rdh ?rda ?_); (case rdh => walk_at "sq"); (case rda => walk_at "at")))
local macro_rules | `(tactic| walk_at "sq") => `(tactic| first
  | assumption
  | exact SqL.of (by assumption)
  | exact SqL.of upd_same
  | exact SqT.of (by assumption)
  | exact SqT.of upd_same)
local macro_rules | `(tactic| walk_at "sml") => `(tactic| (rw [sizeLine_eq]; simp))
local macro_rules | `(tactic| walk_at "at") => `(tactic| first | assumption | rfl)
local macro_rules | `(tactic| walk_at "rd") => `(tactic| repeat walk_at "rd1")
section
variable {w : World} {P : Program} {base : Heap} {K : PySem.W.Frag} {mg : Str → Option Value}
def topS (i : Nat) : Stmt := PySem.Challenge.pw_heapgame_k00_gaps_and_measures.main.body.getD i (.Pass ⟨0, 0, 0, 0⟩)
abbrev s_law_cell : Stmt := topS 8
theorem sc_law_cell : FnScope ["script", "k"] ["script", "k"] (defScope s_law_cell) := ⟨rfl, rfl, rfl, by decide +kernel, rfl, by decide +kernel, by decide +kernel⟩
abbrev s_law_digits : Stmt := topS 9
theorem sc_law_digits : FnScope ["script", "first", "last", "digits", "k", "cell", "turn", "seed"] ["script", "first", "last"] (defScope s_law_digits) := ⟨rfl, rfl, rfl, by decide +kernel, rfl, by decide +kernel, by decide +kernel⟩
abbrev s_law_draw : Stmt := topS 10
theorem sc_law_draw : FnScope ["box", "many", "at"] ["box", "many"] (defScope s_law_draw) := ⟨rfl, rfl, rfl, by decide +kernel, rfl, by decide +kernel, by decide +kernel⟩
abbrev s_law_blocks : Stmt := topS 16
theorem sc_law_blocks : FnScope ["box", "size", "most", "blocks", "at", "k", "start", "length"] ["box", "size", "most"] (defScope s_law_blocks) := ⟨rfl, rfl, rfl, by decide +kernel, rfl, by decide +kernel, by decide +kernel⟩
abbrev s_law_cells : Stmt := topS 17
theorem sc_law_cells : FnScope ["size", "blocks", "cells", "k", "at"] ["size", "blocks"] (defScope s_law_cells) := ⟨rfl, rfl, rfl, by decide +kernel, rfl, by decide +kernel, by decide +kernel⟩
abbrev s_law_runs : Stmt := topS 18
theorem sc_law_runs : FnScope ["cells", "runs", "at"] ["cells"] (defScope s_law_runs) := ⟨rfl, rfl, rfl, by decide +kernel, rfl, by decide +kernel, by decide +kernel⟩
abbrev s_law_is_blocks : Stmt := topS 19
theorem sc_law_is_blocks : FnScope ["xs", "x"] ["xs"] (defScope s_law_is_blocks) := ⟨rfl, rfl, rfl, by decide +kernel, rfl, by decide +kernel, by decide +kernel⟩
abbrev s_is_layout : Stmt := topS 2
theorem sc_is_layout : FnScope ["size", "layout", "end", "start", "length"] ["size", "layout"] (defScope s_is_layout) := ⟨rfl, rfl, rfl, by decide +kernel, rfl, by decide +kernel, by decide +kernel⟩
abbrev s_gaps : Stmt := topS 4
theorem sc_gaps : FnScope ["size", "layout", "found", "end", "start", "length"] ["size", "layout"] (defScope s_gaps) := ⟨rfl, rfl, rfl, by decide +kernel, rfl, by decide +kernel, by decide +kernel⟩
abbrev s_live_cells : Stmt := topS 3
theorem sc_live_cells : FnScope ["layout", "start", "length"] ["layout"] (defScope s_live_cells) := ⟨rfl, rfl, rfl, by decide +kernel, rfl, by decide +kernel, by decide +kernel⟩
abbrev s_lowest_terms : Stmt := topS 6
theorem sc_lowest_terms : FnScope ["numerator", "denominator", "common"] ["numerator", "denominator"] (defScope s_lowest_terms) := ⟨rfl, rfl, rfl, by decide +kernel, rfl, by decide +kernel, by decide +kernel⟩
abbrev s_measure : Stmt := topS 5
theorem sc_measure : FnScope ["size", "layout", "live", "free", "found", "greatest", "start", "cells", "fragmentation"] ["size", "layout"] (defScope s_measure) := ⟨rfl, rfl, rfl, by decide +kernel, rfl, by decide +kernel, by decide +kernel⟩
abbrev s_law : Stmt := topS 20
theorem sc_law : FnScope ["script", "box", "size", "layout", "kept", "block", "runs", "actual", "free", "run", "largest", "told", "k"] ["script"] (defScope s_law) := ⟨rfl, rfl, rfl, by decide +kernel, rfl, by decide +kernel, by decide +kernel⟩
structure Txt (mg : Str → Option Value) : Prop where
  bool : mg "bool" = none
  gcd : mg "gcd" = some (.builtin "math.gcd")
  int : mg "int" = none
  isinstance : mg "isinstance" = none
  len : mg "len" = none
  list : mg "list" = none
  max : mg "max" = none
  range : mg "range" = none
  sum : mg "sum" = none
  tuple : mg "tuple" = none
def sp_cell (K : PySem.W.Frag) : Sp := fun vs H Q _ => ∃ (a : Addr) (ns : List Int) (k : Nat), vs = [.ref a, .int k] ∧ SqL K H a (ns.map V.int) ∧ ∀ c, Q (.int c) H
theorem mk_law_cell {f : Addr} {fd : FuncData} (T : Txt mg) (F : Fun K "_law_cell" "_law_cell" s_law_cell f fd) (m : mg "_law_cell" = some (.ref f)) (b : Binds K fd ["script", "k"] []) :
    Cal P w K mg base "_law_cell" 1 f fd ["script", "k"] (sp_cell K) := by
  refine ⟨F.ok sc_law_cell (fun vs H Q E h => ?_) (fun cdv A outer s H vs Q E hr h => ?_), m, F.kp, b⟩
  · rcases h with ⟨a, ns, k, rfl, _⟩
    rfl
  obtain ⟨a, ns, k, rfl, hS, q⟩ := h
  refine ⟨_, (pss_cons (ps_if (pt_cmpR op_lt (pv 1) (pe_callB (show CallR _ _ (fun xs H Q => ∃ p ys, xs = [V.ref p] ∧ (SqL K H p ys ∨ SqT K H p ys) ∧ Q (.int ys.length) H) from call_len_seq) (by rfl) T.len PySem.boot_len (pa_cons (pv 0) pa_nil)) (nomark _))
      (pss_one (ps_ret (pe_ix (show IxR _ (rIxL K) from ix_list) (pv 0) (pv 1) (fun _ _ => rfl))))
      pss_nil) (pss_one (ps_ret pe_int))), ?_⟩
  try dsimp only [cxOf, Cx.nox, Cx.wish]
  rw [show start ["script", "k"] [V.ref a, V.int k] = [some (V.ref a), some (V.int k)] from rfl]
  refine r_seq ?_
  walk_at "rd"
  refine r_ite (fun c => ?_) (fun c => ?_)
  · rw [List.length_map] at c
    walk_at "rd"
    refine r_ixL hS (at_int (by omega) (by omega)) ?_
    exact q _
  · walk_at "rd"
    exact q _
def sp_digits (K : PySem.W.Frag) : Sp := fun vs H Q _ => ∃ (a : Addr) (ns : List Int) (f l : Nat), vs = [.ref a, .int f, .int l] ∧ SqL K H a (ns.map V.int) ∧ f ≤ l ∧ l ≤ 63 ∧
  ∀ (p : Addr) (ds : List Int) (H' : Hp), H p = none → Same H H' → H' p = some (.lst (ds.map V.int)) → ds.length ≤ 60 * (l - f) → Q (.ref p) H'
theorem mk_law_digits {f f1 : Addr} {fd fd1 : FuncData} (T : Txt mg) (F : Fun K "_law_digits" "_law_digits" s_law_digits f fd) (m : mg "_law_digits" = some (.ref f)) (b : Binds K fd ["script", "first", "last"] [])
    (C_law_cell : Cal P w K mg base "_law_cell" 1 f1 fd1 ["script", "k"] (sp_cell K)) :
    Cal P w K mg base "_law_digits" 2 f fd ["script", "first", "last"] (sp_digits K) := by
  refine ⟨F.ok sc_law_digits (fun vs H Q E h => ?_) (fun cdv A outer s H vs Q E hr h => ?_), m, F.kp, b⟩
  · obtain ⟨a, ns, f, l, rfl, _⟩ := h
    rfl
  obtain ⟨a, ns, f, l, rfl, hS, hfl, hl, q⟩ := h
  refine ⟨_, (pss_cons (ps_set (i := 3) sc_law_digits.nd rfl (Or.inl rfl) (pe_lst pa_nil)) (pss_cons (ps_for PassesOwn.never rfl (pi_range2 rfl T.range (pa_cons (pv 1) (pa_cons (pv 2) pa_nil))) (pg_name (i := 4) sc_law_digits.nd rfl (Or.inl rfl))
      (pss_cons (ps_set (i := 5) sc_law_digits.nd rfl (Or.inl rfl) (pe_call C_law_cell.ok (hr.mono (by first | decide | omega)) rfl C_law_cell.mg C_law_cell.kp C_law_cell.b .nil pass0 (pa_cons (pv 0) (pa_cons (pv 4) pa_nil)))) (pss_cons (ps_if (pt_cmpR op_lt (pv 5) pe_int (nomark _))
      (pss_one (ps_set (i := 5) sc_law_digits.nd rfl (Or.inl rfl) (pe_op op_sub pe_int (pe_op op_mul pe_int (pv 5)))))
      pss_nil) (pss_one (ps_if (pt_cmpR op_ge (pv 5) (pe_op op_pow pe_int pe_int) (nomark _))
      (pss_one (ps_for PassesOwn.never rfl (pi_range1 rfl T.range (pa_cons pe_int pa_nil)) (pg_name (i := 6) sc_law_digits.nd rfl (Or.inl rfl))
      (pss_one (ps_if (pt_cmpR op_gt (pv 5) pe_int (nomark _))
      (pss_cons (ps_expr (pe_bm PySem.F.plainAttrs_list PySem.F.slot_list_append PySem.F.type_list_append mt_append (pv 3) (pa_cons (pe_op op_mod (pe_callTy call_int1 (by rfl) T.int (by decide +kernel) (pa_cons (pv 5) pa_nil)) pe_int) pa_nil))) (pss_one (ps_set (i := 5) sc_law_digits.nd rfl (Or.inl rfl) (pe_op op_fdiv (pv 5) pe_int))))
      pss_nil))))
      (pss_cons (ps_set (i := 7) sc_law_digits.nd rfl (Or.inl rfl) (pe_op op_mod (pe_callTy call_int1 (by rfl) T.int (by decide +kernel) (pa_cons (pe_op op_add (pe_op op_add (pe_op op_mul (pv 5) pe_int) (pe_op op_mul (pv 4) pe_int)) pe_int) pa_nil)) pe_int)) (pss_one (ps_for PassesOwn.never rfl (pi_range1 rfl T.range (pa_cons pe_int pa_nil)) (pg_name (i := 6) sc_law_digits.nd rfl (Or.inl rfl))
      (pss_cons (ps_set (i := 7) sc_law_digits.nd rfl (Or.inl rfl) (pe_op op_mod (pe_callTy call_int1 (by rfl) T.int (by decide +kernel) (pa_cons (pe_op op_add (pe_op op_add (pe_op op_mul (pv 7) pe_int) (pe_op op_mul pe_int (pv 6))) pe_int) pa_nil)) pe_int)) (pss_one (ps_expr (pe_bm PySem.F.plainAttrs_list PySem.F.slot_list_append PySem.F.type_list_append mt_append (pv 3) (pa_cons (pe_op op_mod (pe_callTy call_int1 (by rfl) T.int (by decide +kernel) (pa_cons (pe_op op_fdiv (pv 7) pe_int) pa_nil)) pe_int) pa_nil))))))))))))) (pss_one (ps_ret (pv 3))))), ?_⟩
  try dsimp only [cxOf, Cx.nox, Cx.wish]
  rw [show start ["script", "first", "last", "digits", "k", "cell", "turn", "seed"] [V.ref a, V.int f, V.int l] = [some (V.ref a), some (V.int f), some (V.int l), none, none, none, none, none] from rfl]
  walk_at "rd"
  refine ⟨by decide, fun p np => ?_⟩
  walk_at "rd"
  refine ⟨by omega, ?_⟩
  refine for_range (lo := (f : Int)) (n := ((l : Int) - f).toNat) (fun i σ H' => ∃ x4 x5 x6 x7 ds, σ = [some (.ref a), some (.int f), some (.int l), some (.ref p), x4, x5, x6, x7] ∧ Same H H' ∧ H' p = some (.lst (ds.map V.int)) ∧ ds.length ≤ 60 * i)
    ⟨none, none, none, none, [], rfl, same_upd np, upd_same, by simp⟩ ?_ ?_
  · rintro i σ H1 hi ⟨x4, x5, x6, x7, ds, rfl, s1, hp, hd⟩
    have npa : ∀ z, H1 p = some z → True := fun _ _ => trivial
    walk_at "rd"
    refine ⟨a, ns, f + i, by simp, s1.seq hS, fun c => ?_⟩
    walk_at "rd"
    refine r_seqG fun R hR => ?_
    have key : ∀ c2 : Int, R [some (.ref a), some (.int f), some (.int l), some (.ref p), some (.int (f + i)), some (.int c2), x6, x7] H1 := by
      intro c2
      refine hR _ _ ?_
      walk_at "rd"
      refine r_ite (fun c => ?_) (fun c => ?_)
      · walk_at "rd"
        refine ⟨by decide, by decide, ?_⟩
        refine for_range (lo := 0) (n := 60) (fun j σ H' => ∃ (y6 : Option V) (es : List Int) (c3 : Int), σ = [some (.ref a), some (.int f), some (.int l), some (.ref p), some (.int (f + i)), some (.int c3), y6, x7] ∧ Same H H' ∧ H' p = some (.lst (es.map V.int)) ∧ es.length ≤ 60 * i + j)
          ⟨x6, ds, c2, rfl, s1, hp, by omega⟩ ?_ ?_
        · rintro j σ H2 hj ⟨y6, es, c3, rfl, s2, hp2, he⟩
          walk_at "rd"
          refine r_ite (fun c => ?_) (fun c => ?_)
          · walk_at "rd"
            refine ⟨ty_lst hp2, ?_⟩
            walk_at "rd"
            refine r_app hp2 (by rw [List.length_map, sizeLine_eq]; omega) fun H3 hp3 u3 => ?_
            walk_at "rd"
            exact ⟨_, es ++ [c3 % 1000], _, rfl, u3.new np s2, by rw [hp3, List.map_append]; rfl, by rw [List.length_append]; simp; omega⟩
          · walk_at "rd"
            exact ⟨_, es, c3, rfl, s2, hp2, by omega⟩
        · rintro σ H2 ⟨y6, es, c3, rfl, s2, hp2, he⟩
          exact ⟨_, _, _, _, es, rfl, s2, hp2, by omega⟩
      · walk_at "rd"
        refine ⟨by decide, by decide, ?_⟩
        refine for_range (lo := 0) (n := 12) (fun j σ H' => ∃ (y6 : Option V) (es : List Int) (c3 : Int), σ = [some (.ref a), some (.int f), some (.int l), some (.ref p), some (.int (f + i)), some (.int c2), y6, some (.int c3)] ∧ Same H H' ∧ H' p = some (.lst (es.map V.int)) ∧ es.length ≤ 60 * i + j)
          ⟨x6, ds, _, rfl, s1, hp, by omega⟩ ?_ ?_
        · rintro j σ H2 hj ⟨y6, es, c3, rfl, s2, hp2, he⟩
          walk_at "rd"
          refine ⟨ty_lst hp2, ?_⟩
          walk_at "rd"
          refine r_app hp2 (by rw [List.length_map, sizeLine_eq]; omega) fun H3 hp3 u3 => ?_
          walk_at "rd"
          exact ⟨_, es ++ [_], _, rfl, u3.new np s2, by rw [hp3, List.map_append]; rfl, by rw [List.length_append]; simp; omega⟩
        · rintro σ H2 ⟨y6, es, c3, rfl, s2, hp2, he⟩
          exact ⟨_, _, _, _, es, rfl, s2, hp2, by omega⟩
    walk_at "rd"
    refine r_ite (fun c => ?_) (fun c => ?_)
    · walk_at "rd"
      exact key _
    · walk_at "rd"
      exact key _
  · rintro σ H1 ⟨x4, x5, x6, x7, ds, rfl, s1, hp, hd⟩
    walk_at "rd"
    exact q p ds H1 np s1 hp (by omega)
def sp_draw : Sp := fun vs H Q _ => ∃ (b d : Addr) (m : Int), vs = [.ref b, .int m] ∧ 0 < m ∧ Bx H b d ∧ ∀ (r : Int) (H' : Hp), 0 ≤ r → r < m → Bx H' b d → But b H H' → Q (.int r) H'
theorem mk_law_draw {f : Addr} {fd : FuncData} (T : Txt mg) (F : Fun K "_law_draw" "_law_draw" s_law_draw f fd) (m : mg "_law_draw" = some (.ref f)) (b : Binds K fd ["box", "many"] []) :
    Cal P w K mg base "_law_draw" 1 f fd ["box", "many"] sp_draw := by
  refine ⟨F.ok sc_law_draw (fun vs H Q E h => ?_) (fun cdv A outer s H vs Q E hr h => ?_), m, F.kp, b⟩
  · obtain ⟨b, d, m, rfl, _⟩ := h
    rfl
  obtain ⟨b, d, m, rfl, hm, ⟨ds, k, hb, hd, nd⟩, q⟩ := h
  refine ⟨_, (pss_cons (ps_set (i := 2) sc_law_draw.nd rfl (Or.inl rfl) (pe_ix (show IxR _ (rIxL K) from ix_list) (pv 0) pe_int (fun _ _ => rfl))) (pss_cons (ps_asg (pe_op op_add (pv 2) pe_int) (pg_sub (pv 0) pe_int set_list)) (pss_cons (ps_if (pt_cmpR op_lt (pv 2) (pe_callB (show CallR _ _ (fun xs H Q => ∃ p ys, xs = [V.ref p] ∧ (SqL K H p ys ∨ SqT K H p ys) ∧ Q (.int ys.length) H) from call_len_seq) (by rfl) T.len PySem.boot_len (pa_cons (pe_ix (show IxR _ (rIxL K) from ix_list) (pv 0) pe_int (fun _ _ => rfl)) pa_nil)) (nomark _))
      (pss_one (ps_ret (pe_op op_mod (pe_callTy call_int1 (by rfl) T.int (by decide +kernel) (pa_cons (pe_ix (show IxR _ (rIxL K) from ix_list) (pe_ix (show IxR _ (rIxL K) from ix_list) (pv 0) pe_int (fun _ _ => rfl)) (pv 2) (fun _ _ => rfl)) pa_nil)) (pv 1))))
      pss_nil) (pss_one (ps_ret pe_int))))), ?_⟩
  try dsimp only [cxOf, Cx.nox, Cx.wish]
  rw [show start ["box", "many", "at"] [V.ref b, V.int m] = [some (V.ref b), some (V.int m), none] from rfl]
  walk_at "rd"
  refine r_setL hb (j := 1) rfl fun H1 hb1 u1 => ?_
  have hd1 := u1 _ _ nd hd
  refine r_seq ?_
  walk_at "rd"
  have B1 : Bx H1 b d := ⟨ds, k + 1, hb1, hd1, nd⟩
  refine r_ite (fun c => ?_) (fun c => ?_)
  · rw [List.length_map] at c
    walk_at "rd"
    refine r_ixL (SqL.of hd1) (at_int (by omega) (by omega)) ?_
    walk_at "rd"
    exact q _ _ (Int.emod_nonneg _ (by omega)) (Int.emod_lt_of_pos _ hm) B1 u1
  · walk_at "rd"
    exact q _ _ (by omega) hm B1 u1
end
end Pf

namespace Pf
open PySem L2
local macro_rules | `(tactic| walk_at "rd1") => `(tactic| first
  | with_reducible refine r_seqA ?_
  | with_reducible refine r_seqD ?_
  | with_reducible refine r_seqF ?_
  | with_reducible refine r_seqN ?_
  | with_reducible refine r_asg ?_
  | with_reducible refine r_drop ?_
  | with_reducible refine r_ret ?_
  | with_reducible refine r_ifS ?_
  | ((with_reducible refine r_next ?_); try dsimp only)
  | ((with_reducible refine r_name ?_); try dsimp only [List.set_cons_succ, List.set_cons_zero, wipe])
  | ((with_reducible refine' r_var ?rdh ?_); (case rdh => rfl))
  | with_reducible refine r_c ?_
  | with_reducible refine r_op ?_
  | with_reducible refine r_un ?_
  | with_reducible refine r_I0 ?_
  | ((with_reducible refine r_I ?_ ?_); (· first | decide | exact Or.inl (by decide) | exact Or.inr (by decide) | (show _ ∧ _; constructor <;> decide) | (show (0:Int) < _; omega) | (show CDiv _ _; unfold CDiv; omega) ))
  | with_reducible refine r_U ?_
  | with_reducible refine r_eqI ?_
  | with_reducible refine r_neI ?_
  | with_reducible refine r_eqB ?_
  | with_reducible refine r_neB ?_
  | with_reducible refine r_test ?_
  | with_reducible refine r_B ?_
  | with_reducible refine r_bl ?_
  | with_reducible refine r_bl2 ?_
  | with_reducible refine r_yes ?_
  | with_reducible refine r_wipe (by rfl) ?_
  | with_reducible refine r_rfl ?_
  | ((with_reducible refine' r_eqA ?rdh ?_); (case rdh => rfl))
  | with_reducible refine r_and ?_
  | with_reducible refine r_or ?_
  | with_reducible refine r_not ?_
  | with_reducible refine r_andV ?_
  | with_reducible refine r_orV ?_
  | with_reducible refine r_notV ?_
  | with_reducible refine r_ifE ?_
  | with_reducible refine r_nil ?_
  | with_reducible refine r_cons ?_
  | with_reducible refine r_tup ?_
  | with_reducible refine r_lst ?_
  | with_reducible refine r_CB ?_
  | with_reducible refine r_call ?_
  | with_reducible refine r_bm ?_
  | with_reducible refine r_bm0 ?_
  | with_reducible refine r_int ?_
  | with_reducible refine r_i2 ?_
  | with_reducible refine r_i1 ?_
  | with_reducible refine r_gcons ?_
  | with_reducible refine r_gnil ?_
  | with_reducible refine r_gsub ?_
  | with_reducible refine iteT ?_
  | with_reducible refine iteF ?_
  | with_reducible refine ite_notT ?_
  | with_reducible refine ite_notF ?_
  | with_reducible refine r_isi_ib ?_
  | with_reducible refine r_isi_ii ?_
  | with_reducible refine r_isi_bb ?_
  | with_reducible refine r_isi_nb ?_
  | with_reducible refine r_isi_nt ?_
  | ((with_reducible refine' r_isi_ll ?rdh ?_); (case rdh => first | assumption | exact upd_same))
  | ((with_reducible refine' r_isi_tt ?rdh ?_); (case rdh => first | assumption | exact upd_same))
  | with_reducible refine r_sl ?_
  | with_reducible refine r_noPart ?_
  | with_reducible refine r_part ?_
  | with_reducible refine r_int1 ?_
  | with_reducible refine r_tru ?_
  | with_reducible refine r_ckw ?_
  | with_reducible refine r_lc ?_
  | with_reducible refine r_lc2 ?_
  | with_reducible refine r_forS ?_
  | with_reducible refine r_iR1 ?_
  | with_reducible refine r_iR2 ?_
  | with_reducible refine r_iL ?_
  | ((with_reducible refine' r_lenL ?rdh ?_); (case rdh => walk_at "sq"))
  | ((with_reducible refine' r_ixL ?rdh ?rda ?_); (case rdh => walk_at "sq"); (case rda => walk_at "at"))
  | ((with_reducible refine' r_ixT ?rdh ?rda ?_); (case rdh => walk_at "sq"); (case rda => walk_at "at")))
local macro_rules | `(tactic| walk_at "sq") => `(tactic| first
  | assumption
  | exact SqL.of (by assumption)
  | exact SqL.of upd_same
  | exact SqT.of (by assumption)
  | exact SqT.of upd_same)
local macro_rules | `(tactic| walk_at "sml") => `(tactic| (rw [sizeLine_eq]; simp))
local macro_rules | `(tactic| walk_at "at") => `(tactic| first | assumption | rfl)
local macro_rules | `(tactic| walk_at "rd") => `(tactic| repeat walk_at "rd1")
section
variable {w : World} {P : Program} {base : Heap} {K : PySem.W.Frag} {mg : Str → Option Value}
def sp_blocks : Sp := fun vs H Q _ => ∃ (b d : Addr) (size : Int) (most : Nat), vs = [.ref b, .int size, .int most] ∧ 0 ≤ size ∧ most ≤ 1000 ∧ Bx H b d ∧
  ∀ (L : Addr) (bs : List (Int × Int)) (H' : Hp), H L = none → Bx H' b d → But b H H' → LT bV H' L bs → VL size 0 bs → bs.length ≤ most → Q (.ref L) H'
theorem mk_law_blocks {f f1 : Addr} {fd fd1 : FuncData} (T : Txt mg) (F : Fun K "_law_blocks" "_law_blocks" s_law_blocks f fd) (m : mg "_law_blocks" = some (.ref f)) (b : Binds K fd ["box", "size", "most"] [])
    (C_law_draw : Cal P w K mg base "_law_draw" 1 f1 fd1 ["box", "many"] sp_draw) :
    Cal P w K mg base "_law_blocks" 2 f fd ["box", "size", "most"] sp_blocks := by
  refine ⟨F.ok sc_law_blocks (fun vs H Q E h => ?_) (fun cdv A outer s H vs Q E hr h => ?_), m, F.kp, b⟩
  · obtain ⟨b, d, size, most, rfl, _⟩ := h
    rfl
  obtain ⟨b, d, size, most, rfl, hz, hm, B, q⟩ := h
  refine ⟨_, (pss_cons (ps_set (i := 3) sc_law_blocks.nd rfl (Or.inl rfl) (pe_lst pa_nil)) (pss_cons (ps_set (i := 4) sc_law_blocks.nd rfl (Or.inl rfl) pe_int) (pss_cons (ps_for PassesOwn.never rfl (pi_range1 rfl T.range (pa_cons (pv 2) pa_nil)) (pg_name (i := 5) sc_law_blocks.nd rfl (Or.inl rfl))
      (pss_cons (ps_set (i := 6) sc_law_blocks.nd rfl (Or.inl rfl) (pe_op op_add (pv 4) (pe_ix (show IxR _ (rIxL K) from ix_list) (pe_lst (pa_cons pe_int (pa_cons pe_int (pa_cons pe_int (pa_cons pe_int (pa_cons pe_int (pa_cons pe_int pa_nil))))))) (pe_call C_law_draw.ok (hr.mono (by first | decide | omega)) rfl C_law_draw.mg C_law_draw.kp C_law_draw.b .nil pass0 (pa_cons (pv 0) (pa_cons pe_int pa_nil))) (fun _ _ => rfl)))) (pss_cons (ps_set (i := 7) sc_law_blocks.nd rfl (Or.inl rfl) (pe_op op_add pe_int (pe_ix (show IxR _ (rIxL K) from ix_list) (pe_lst (pa_cons pe_int (pa_cons pe_int (pa_cons pe_int (pa_cons pe_int (pa_cons pe_int (pa_cons pe_int pa_nil))))))) (pe_call C_law_draw.ok (hr.mono (by first | decide | omega)) rfl C_law_draw.mg C_law_draw.kp C_law_draw.b .nil pass0 (pa_cons (pv 0) (pa_cons pe_int pa_nil))) (fun _ _ => rfl)))) (pss_one (ps_if (PW.pt (pw_and (pt_cmpR op_le (pe_op op_add (pv 6) (pv 7)) (pv 1) (nomark _)) (pw_and1 (pt_cmpR op_gt (pe_call C_law_draw.ok (hr.mono (by first | decide | omega)) rfl C_law_draw.mg C_law_draw.kp C_law_draw.b .nil pass0 (pa_cons (pv 0) (pa_cons pe_int pa_nil))) pe_int (nomark _)))))
      (pss_cons (ps_expr (pe_bm PySem.F.plainAttrs_list PySem.F.slot_list_append PySem.F.type_list_append mt_append (pv 3) (pa_cons (pe_tup (pa_cons (pv 6) (pa_cons (pv 7) pa_nil))) pa_nil))) (pss_one (ps_set (i := 4) sc_law_blocks.nd rfl (Or.inl rfl) (pe_op op_add (pv 6) (pv 7)))))
      pss_nil))))) (pss_one (ps_ret (pv 3)))))), ?_⟩
  try dsimp only [cxOf, Cx.nox, Cx.wish]
  rw [show start ["box", "size", "most", "blocks", "at", "k", "start", "length"] [V.ref b, V.int size, V.int most] = [some (V.ref b), some (V.int size), some (V.int most), none, none, none, none, none] from rfl]
  walk_at "rd"
  refine ⟨by walk_at "sml", fun L nL => ?_⟩
  have nLb : L ≠ b := B.ne nL
  have nLd : L ≠ d := B.neD nL
  refine upd_new nL fun H1 hL s1 => ?_
  walk_at "rd"
  refine And.intro (by omega) ⟨by omega, ?_⟩
  refine for_range (lo := 0) (n := most) (fun k σ H' => ∃ (x5 x6 x7 : Option V) (ts : List Addr) (bs : List (Int × Int)), σ = [some (.ref b), some (.int size), some (.int most), some (.ref L), some (.int (endOf 0 bs)), x5, x6, x7] ∧ Bx H' b d ∧ But b H H' ∧ H' L = some (.lst (ts.map V.ref)) ∧ TL bV H' ts bs ∧ VL size 0 bs ∧ bs.length ≤ k)
    ⟨_, _, _, [], [], rfl, B.same s1, .of s1, hL, .nil, hz, Nat.le_refl _⟩ ?_ ?_
  · rintro k σ H2 hk ⟨x5, x6, x7, ts, bs, rfl, B2, u2, hL2, ht, hv, hl⟩
    rw [Int.zero_add]
    walk_at "rd"
    refine ⟨by walk_at "sml", fun m1 nm1 => ?_⟩
    refine upd_new nm1 fun H3 hm1 s3 => ?_
    have B3 := B2.same s3
    walk_at "rd"
    refine ⟨b, d, 6, rfl, by decide, B3, fun r3 H4 r30 r31 B4 u4 => ?_⟩
    obtain ⟨v1, hv1m, hv1⟩ := menu (ns := [0, 0, 0, 1, 1, 2]) r30 r31
    have hv10 : 0 ≤ v1 := by simp at hv1m; omega
    refine r_ixL (SqL.of (u4 _ _ (B2.ne nm1) hm1)) hv1 ?_
    walk_at "rd"
    refine ⟨by walk_at "sml", fun m2 nm2 => ?_⟩
    refine upd_new nm2 fun H5 hm2 s5 => ?_
    have B5 := B4.same s5
    walk_at "rd"
    refine ⟨b, d, 6, rfl, by decide, B5, fun r4 H6 r40 r41 B6 u6 => ?_⟩
    obtain ⟨v2, hv2m, hv2⟩ := menu (ns := [0, 0, 1, 1, 2, 3]) r40 r41
    have hv20 : 0 ≤ v2 := by simp at hv2m; omega
    refine r_ixL (SqL.of (u6 _ _ (B4.ne nm2) hm2)) hv2 ?_
    walk_at "rd"
    have U6 : But b H2 H6 := ((But.of s3).trans u4).trans ((But.of s5).trans u6)
    have hL6 := U6 _ _ nLb hL2
    have ht6 := ht.box U6 B2
    have V6 := u2.trans U6
    refine r_ite (fun c1 => ?_) (fun c1 => ?_)
    · walk_at "rd"
      refine ⟨b, d, 6, rfl, by decide, B6, fun r5 H7 r50 r51 B7 u7 => ?_⟩
      walk_at "rd"
      have hL7 := u7 _ _ nLb hL6
      have ht7 := ht6.box u7 B6
      refine r_ite (fun c2 => ?_) (fun c2 => ?_)
      · walk_at "rd"
        refine ⟨ty_lst hL7, ?_⟩
        walk_at "rd"
        refine ⟨by walk_at "sml", fun t nt => ?_⟩
        refine upd_new nt fun H8 hnt s8 => ?_
        have hL8 := s8 _ _ hL7
        walk_at "rd"
        refine r_app hL8 (by rw [ht7.len, sizeLine_eq]; omega) fun H9 hL9 u9 => ?_
        walk_at "rd"
        have nW : But b H H9 := fun a o na e => by
          have nLa : a ≠ L := ne_of_none e nL
          exact u9 _ _ nLa (s8 _ _ (u7 _ _ na (V6 _ _ na e)))
        refine ⟨some (.int k), some (.int (endOf 0 bs + v1)), some (.int (1 + v2)), ts ++ [t], bs ++ [(endOf 0 bs + v1, 1 + v2)], ?_, (B7.same s8).but u9 nLb nLd, nW, by rw [hL9, List.map_append]; rfl, ((ht7.same s8).but u9 hL8).snoc (u9 _ _ (ne_of hnt hL8 (by intro z; cases z)) hnt), hv.snoc (by omega) (by omega) (by omega), ?_⟩
        · rw [endOf_snoc]
        · rw [List.length_append]
          simp
          omega
      · walk_at "rd"
        exact ⟨_, _, _, ts, bs, rfl, B7, V6.trans u7, hL7, ht7, hv, by omega⟩
    · walk_at "rd"
      exact ⟨_, _, _, ts, bs, rfl, B6, V6, hL6, ht6, hv, by omega⟩
  · rintro σ H2 ⟨x5, x6, x7, ts, bs, rfl, B2, u2, hL2, ht, hv, hl⟩
    walk_at "rd"
    exact q L bs H2 nL B2 u2 ⟨ts, hL2, ht⟩ hv hl
end
end Pf

namespace Pf
open PySem L2
local macro_rules | `(tactic| walk_at "rd1") => `(tactic| first
  | with_reducible refine r_seqA ?_
  | with_reducible refine r_seqD ?_
  | with_reducible refine r_seqF ?_
  | with_reducible refine r_seqN ?_
  | with_reducible refine r_asg ?_
  | with_reducible refine r_drop ?_
  | with_reducible refine r_ret ?_
  | with_reducible refine r_ifS ?_
  | ((with_reducible refine r_next ?_); try dsimp only)
  | ((with_reducible refine r_name ?_); try dsimp only [List.set_cons_succ, List.set_cons_zero, wipe])
  | ((with_reducible refine' r_var ?rdh ?_); (case rdh => rfl))
  | with_reducible refine r_c ?_
  | with_reducible refine r_op ?_
  | with_reducible refine r_un ?_
  | with_reducible refine r_I0 ?_
  | ((with_reducible refine r_I ?_ ?_); (· first | decide | exact Or.inl (by decide) | exact Or.inr (by decide) | (show _ ∧ _; constructor <;> decide) | (show (0:Int) < _; omega) | (show CDiv _ _; unfold CDiv; omega) ))
  | with_reducible refine r_U ?_
  | with_reducible refine r_eqI ?_
  | with_reducible refine r_neI ?_
  | with_reducible refine r_eqB ?_
  | with_reducible refine r_neB ?_
  | with_reducible refine r_test ?_
  | with_reducible refine r_B ?_
  | with_reducible refine r_bl ?_
  | with_reducible refine r_bl2 ?_
  | with_reducible refine r_yes ?_
  | with_reducible refine r_wipe (by rfl) ?_
  | with_reducible refine r_rfl ?_
  | ((with_reducible refine' r_eqA ?rdh ?_); (case rdh => rfl))
  | with_reducible refine r_and ?_
  | with_reducible refine r_or ?_
  | with_reducible refine r_not ?_
  | with_reducible refine r_andV ?_
  | with_reducible refine r_orV ?_
  | with_reducible refine r_notV ?_
  | with_reducible refine r_ifE ?_
  | with_reducible refine r_nil ?_
  | with_reducible refine r_cons ?_
  | with_reducible refine r_tup ?_
  | with_reducible refine r_lst ?_
  | with_reducible refine r_CB ?_
  | with_reducible refine r_call ?_
  | with_reducible refine r_bm ?_
  | with_reducible refine r_bm0 ?_
  | with_reducible refine r_int ?_
  | with_reducible refine r_i2 ?_
  | with_reducible refine r_i1 ?_
  | with_reducible refine r_gcons ?_
  | with_reducible refine r_gnil ?_
  | with_reducible refine r_gsub ?_
  | with_reducible refine iteT ?_
  | with_reducible refine iteF ?_
  | with_reducible refine ite_notT ?_
  | with_reducible refine ite_notF ?_
  | with_reducible refine r_isi_ib ?_
  | with_reducible refine r_isi_ii ?_
  | with_reducible refine r_isi_bb ?_
  | with_reducible refine r_isi_nb ?_
  | with_reducible refine r_isi_nt ?_
  | ((with_reducible refine' r_isi_ll ?rdh ?_); (case rdh => first | assumption | exact upd_same))
  | ((with_reducible refine' r_isi_tt ?rdh ?_); (case rdh => first | assumption | exact upd_same))
  | with_reducible refine r_sl ?_
  | with_reducible refine r_noPart ?_
  | with_reducible refine r_part ?_
  | with_reducible refine r_int1 ?_
  | with_reducible refine r_tru ?_
  | with_reducible refine r_ckw ?_
  | with_reducible refine r_lc ?_
  | with_reducible refine r_lc2 ?_
  | with_reducible refine r_forS ?_
  | with_reducible refine r_iR1 ?_
  | with_reducible refine r_iR2 ?_
  | with_reducible refine r_iL ?_
  | ((with_reducible refine' r_lenL ?rdh ?_); (case rdh => walk_at "sq"))
  | ((with_reducible refine' r_ixL ?rdh ?rda ?_); (case rdh => walk_at "sq"); (case rda => walk_at "at"))
  | ((with_reducible refine' r_ixT ?rdh ?rda ?_); (case rdh => walk_at "sq"); (case rda => walk_at "at")))
local macro_rules | `(tactic| walk_at "sq") => `(tactic| first
  | assumption
  | exact SqL.of (by assumption)
  | exact SqL.of upd_same
  | exact SqT.of (by assumption)
  | exact SqT.of upd_same)
local macro_rules | `(tactic| walk_at "sml") => `(tactic| (rw [sizeLine_eq]; simp))
local macro_rules | `(tactic| walk_at "at") => `(tactic| first | assumption | rfl)
local macro_rules | `(tactic| walk_at "rd") => `(tactic| repeat walk_at "rd1")
section
variable {w : World} {P : Program} {base : Heap} {K : PySem.W.Frag} {mg : Str → Option Value}
def sp_cells : Sp := fun vs H Q _ => ∃ (a : Addr) (n : Nat) (bs : List (Int × Int)), vs = [.int n, .ref a] ∧ n ≤ 1000 ∧ LT bV H a bs ∧ VL n 0 bs ∧ bs.length ≤ 1000 ∧
  ∀ (p : Addr) (cs : List Int) (H' : Hp), H p = none → Same H H' → H' p = some (.lst (cs.map V.int)) → CellsOf n bs cs → Q (.ref p) H'
theorem mk_law_cells {f : Addr} {fd : FuncData} (T : Txt mg) (F : Fun K "_law_cells" "_law_cells" s_law_cells f fd) (m : mg "_law_cells" = some (.ref f)) (b : Binds K fd ["size", "blocks"] []) :
    Cal P w K mg base "_law_cells" 1 f fd ["size", "blocks"] sp_cells := by
  refine ⟨F.ok sc_law_cells (fun vs H Q E h => ?_) (fun cdv A outer s H vs Q E hr h => ?_), m, F.kp, b⟩
  · obtain ⟨a, n, bs, rfl, _⟩ := h
    rfl
  obtain ⟨a, n, bs, rfl, hn, hL, hv, hlen, q⟩ := h
  refine ⟨_, (pss_cons (show PS _ _ (tAsg (tLc _ _ _ _ [3]) _) from ps_setLc (i := 2) (own := [("k", 3)]) (g := gName 3) (tt := tYes) rfl sc_law_cells.nd rfl rfl (sw_true rfl rfl rfl (by decide +kernel)) (pi_range1 rfl T.range (pa_cons (pv 0) pa_nil)) (blkOk_by (own := [("k", 3)]) (N := ["size", "blocks", "cells", "k", "at"]) (sc := defScope s_law_cells) (by decide +kernel)) (fun _ _ _ _ _ => (pg_name (i := 3) sc_law_cells.nd rfl (Or.inl rfl))) (fun _ _ _ _ _ => pts_nil) (fun _ _ _ _ _ => pe_int)) (pss_cons (ps_for PassesOwn.never rfl (pi_range1 rfl T.range (pa_cons (pe_callB (show CallR _ _ (fun xs H Q => ∃ p ys, xs = [V.ref p] ∧ (SqL K H p ys ∨ SqT K H p ys) ∧ Q (.int ys.length) H) from call_len_seq) (by rfl) T.len PySem.boot_len (pa_cons (pv 1) pa_nil)) pa_nil)) (pg_name (i := 3) sc_law_cells.nd rfl (Or.inl rfl))
      (pss_one (ps_for PassesOwn.never rfl (pi_range2 rfl T.range (pa_cons (pe_ix (show IxR _ (rIxT K) from ix_tup) (pe_ix (show IxR _ (rIxL K) from ix_list) (pv 1) (pv 3) (fun _ _ => rfl)) pe_int (fun _ _ => rfl)) (pa_cons (pe_op op_add (pe_ix (show IxR _ (rIxT K) from ix_tup) (pe_ix (show IxR _ (rIxL K) from ix_list) (pv 1) (pv 3) (fun _ _ => rfl)) pe_int (fun _ _ => rfl)) (pe_ix (show IxR _ (rIxT K) from ix_tup) (pe_ix (show IxR _ (rIxL K) from ix_list) (pv 1) (pv 3) (fun _ _ => rfl)) pe_int (fun _ _ => rfl))) pa_nil))) (pg_name (i := 4) sc_law_cells.nd rfl (Or.inl rfl))
      (pss_one (ps_asg (pe_op op_add (pv 3) pe_int) (pg_sub (pv 2) (pv 4) set_list)))))) (pss_one (ps_ret (pv 2))))), ?_⟩
  try dsimp only [cxOf, Cx.nox, Cx.wish]
  rw [show start ["size", "blocks", "cells", "k", "at"] [V.int n, V.ref a] = [some (V.int n), some (V.ref a), none, none, none] from rfl]
  walk_at "rd"
  refine And.intro (by omega) ⟨by omega, ?_⟩
  intro D nD
  refine lc_range (lo := 0) (n := n) (fun i H' => H' D = some (.lst ((List.replicate i (0 : Int)).map V.int)) ∧ Same H H') ⟨upd_same, same_upd nD⟩ ?_ ?_
  · rintro i H1 hi ⟨hD, s1⟩
    walk_at "rd"
    refine ⟨_, hD, by rw [List.length_map, List.length_replicate, sizeLine_eq]; omega, ?_, But.upd.new nD s1⟩
    rw [upd_same, List.replicate_succ', List.map_append]
    rfl
  · rintro H1 ⟨hD, s1⟩
    obtain ⟨ts, ha, ht⟩ := hL.same s1
    walk_at "rd"
    rw [ht.len]
    refine And.intro (by omega) ⟨by omega, ?_⟩
    refine for_range (lo := 0) (n := bs.length) (fun k σ H' => ∃ (x3 x4 : Option V) (cs : List Int), σ = [some (.int n), some (.ref a), some (.ref D), x3, x4] ∧ Same H H' ∧ H' D = some (.lst (cs.map V.int)) ∧ cs.length = n ∧ ∀ i, i < n → cs[i]? = some (cellOf i 0 (bs.take k)))
      ⟨_, _, List.replicate n 0, rfl, s1, hD, by simp, fun i hi => by rw [List.getElem?_replicate_of_lt hi]; rfl⟩ ?_ ?_
    · rintro k σ H2 hk ⟨x3, x4, cs, rfl, s2, hD2, hcl, hcs⟩
      rw [Int.zero_add]
      obtain ⟨ts, ha, ht⟩ := hL.same s2
      obtain ⟨x, t, ex, ea, et⟩ := ht.at (i := (k : Int)) (by omega) (by omega)
      rw [Int.toNat_natCast] at ex
      have hx := hv.mem x (List.mem_of_getElem? ex)
      walk_at "rd"
      refine ⟨by omega, ?_⟩
      rw [show x.1 + x.2 - x.1 = x.2 by omega]
      refine for_range (lo := x.1) (n := x.2.toNat) (fun j σ H' => ∃ (x4 : Option V) (cs : List Int), σ = [some (.int n), some (.ref a), some (.ref D), some (.int k), x4] ∧ Same H H' ∧ H' D = some (.lst (cs.map V.int)) ∧ cs.length = n ∧ ∀ i, i < n → cs[i]? = some (if x.1 ≤ i ∧ i < x.1 + j then (k : Int) + 1 else cellOf i 0 (bs.take k)))
        ⟨_, cs, rfl, s2, hD2, hcl, fun i hi => by rw [hcs i hi, if_neg (by omega)]⟩ ?_ ?_
      · rintro j σ H3 hj ⟨x4, cs3, rfl, s3, hD3, hcl3, hcs3⟩
        walk_at "rd"
        refine r_setL hD3 (j := (x.1 + j).toNat) ?_ fun H4 hD4 u4 => ?_
        · unfold ixN
          rw [List.length_map, hcl3, if_pos (by omega), if_pos (by omega)]
        · refine ⟨_, cs3.set (x.1 + j).toNat ((k : Int) + 1), rfl, u4.new nD s3, by rw [hD4, List.map_set], by rw [List.length_set]; exact hcl3, fun i hi => ?_⟩
          rw [List.getElem?_set]
          by_cases e : (x.1 + j).toNat = i
          · rw [if_pos e, if_pos (by omega), if_pos (by omega)]
          · rw [if_neg e, hcs3 i hi]
            by_cases c : x.1 ≤ i ∧ i < x.1 + j
            · rw [if_pos c, if_pos (by omega)]
            · rw [if_neg c, if_neg (by omega)]
      · rintro σ H3 ⟨x4, cs3, rfl, s3, hD3, hcl3, hcs3⟩
        refine ⟨_, _, cs3, rfl, s3, hD3, hcl3, fun i hi => ?_⟩
        rw [hcs3 i hi, cellOf_snoc hv ex, Int.zero_add]
        rw [show ((x.2.toNat : Nat) : Int) = x.2 by omega]
    · rintro σ H2 ⟨x3, x4, cs, rfl, s2, hD2, hcl, hcs⟩
      walk_at "rd"
      refine q D cs H2 nD s2 hD2 ⟨by omega, fun i hi => ?_⟩
      rw [hcs i (by omega), List.take_length]
end
end Pf

namespace Pf
open PySem L2
local macro_rules | `(tactic| walk_at "rd1") => `(tactic| first
  | with_reducible refine r_seqA ?_
  | with_reducible refine r_seqD ?_
  | with_reducible refine r_seqF ?_
  | with_reducible refine r_seqN ?_
  | with_reducible refine r_asg ?_
  | with_reducible refine r_drop ?_
  | with_reducible refine r_ret ?_
  | with_reducible refine r_ifS ?_
  | ((with_reducible refine r_next ?_); try dsimp only)
  | ((with_reducible refine r_name ?_); try dsimp only [List.set_cons_succ, List.set_cons_zero, wipe])
  | ((with_reducible refine' r_var ?rdh ?_); (case rdh => rfl))
  | with_reducible refine r_c ?_
  | with_reducible refine r_op ?_
  | with_reducible refine r_un ?_
  | with_reducible refine r_I0 ?_
  | ((with_reducible refine r_I ?_ ?_); (· first | decide | exact Or.inl (by decide) | exact Or.inr (by decide) | (show _ ∧ _; constructor <;> decide) | (show (0:Int) < _; omega) | (show CDiv _ _; unfold CDiv; omega) ))
  | with_reducible refine r_U ?_
  | with_reducible refine r_eqI ?_
  | with_reducible refine r_neI ?_
  | with_reducible refine r_eqB ?_
  | with_reducible refine r_neB ?_
  | with_reducible refine r_test ?_
  | with_reducible refine r_B ?_
  | with_reducible refine r_bl ?_
  | with_reducible refine r_bl2 ?_
  | with_reducible refine r_yes ?_
  | with_reducible refine r_wipe (by rfl) ?_
  | with_reducible refine r_rfl ?_
  | ((with_reducible refine' r_eqA ?rdh ?_); (case rdh => rfl))
  | with_reducible refine r_and ?_
  | with_reducible refine r_or ?_
  | with_reducible refine r_not ?_
  | with_reducible refine r_andV ?_
  | with_reducible refine r_orV ?_
  | with_reducible refine r_notV ?_
  | with_reducible refine r_ifE ?_
  | with_reducible refine r_nil ?_
  | with_reducible refine r_cons ?_
  | with_reducible refine r_tup ?_
  | with_reducible refine r_lst ?_
  | with_reducible refine r_CB ?_
  | with_reducible refine r_call ?_
  | with_reducible refine r_bm ?_
  | with_reducible refine r_bm0 ?_
  | with_reducible refine r_int ?_
  | with_reducible refine r_i2 ?_
  | with_reducible refine r_i1 ?_
  | with_reducible refine r_gcons ?_
  | with_reducible refine r_gnil ?_
  | with_reducible refine r_gsub ?_
  | with_reducible refine iteT ?_
  | with_reducible refine iteF ?_
  | with_reducible refine ite_notT ?_
  | with_reducible refine ite_notF ?_
  | with_reducible refine r_isi_ib ?_
  | with_reducible refine r_isi_ii ?_
  | with_reducible refine r_isi_bb ?_
  | with_reducible refine r_isi_nb ?_
  | with_reducible refine r_isi_nt ?_
  | ((with_reducible refine' r_isi_ll ?rdh ?_); (case rdh => first | assumption | exact upd_same))
  | ((with_reducible refine' r_isi_tt ?rdh ?_); (case rdh => first | assumption | exact upd_same))
  | with_reducible refine r_sl ?_
  | with_reducible refine r_noPart ?_
  | with_reducible refine r_part ?_
  | with_reducible refine r_int1 ?_
  | with_reducible refine r_tru ?_
  | with_reducible refine r_ckw ?_
  | with_reducible refine r_lc ?_
  | with_reducible refine r_lc2 ?_
  | with_reducible refine r_forS ?_
  | with_reducible refine r_iR1 ?_
  | with_reducible refine r_iR2 ?_
  | with_reducible refine r_iL ?_
  | ((with_reducible refine' r_lenL ?rdh ?_); (case rdh => walk_at "sq"))
  | ((with_reducible refine' r_ixL ?rdh ?rda ?_); (case rdh => walk_at "sq"); (case rda => walk_at "at"))
  | ((with_reducible refine' r_ixT ?rdh ?rda ?_); (case rdh => walk_at "sq"); (case rda => walk_at "at")))
local macro_rules | `(tactic| walk_at "sq") => `(tactic| first
  | assumption
  | exact SqL.of (by assumption)
  | exact SqL.of upd_same
  | exact SqT.of (by assumption)
  | exact SqT.of upd_same)
local macro_rules | `(tactic| walk_at "sml") => `(tactic| (rw [sizeLine_eq]; simp))
local macro_rules | `(tactic| walk_at "at") => `(tactic| first | assumption | rfl)
local macro_rules | `(tactic| walk_at "rd") => `(tactic| repeat walk_at "rd1")
section
variable {w : World} {P : Program} {base : Heap} {K : PySem.W.Frag} {mg : Str → Option Value}
def sp_runs (K : PySem.W.Frag) : Sp := fun vs H Q _ => ∃ (a : Addr) (cs : List Int), vs = [.ref a] ∧ SqL K H a (cs.map V.int) ∧ cs.length ≤ 1000 ∧
  ∀ (p : Addr) (H' : Hp), H p = none → Same H H' → LT bV H' p (runsTo (fun i => cs.getD i 0) cs.length) → Q (.ref p) H'
theorem mk_law_runs {f : Addr} {fd : FuncData} (T : Txt mg) (F : Fun K "_law_runs" "_law_runs" s_law_runs f fd) (m : mg "_law_runs" = some (.ref f)) (b : Binds K fd ["cells"] []) :
    Cal P w K mg base "_law_runs" 1 f fd ["cells"] (sp_runs K) := by
  refine ⟨F.ok sc_law_runs (fun vs H Q E h => ?_) (fun cdv A outer s H vs Q E hr h => ?_), m, F.kp, b⟩
  · obtain ⟨a, cs, rfl, _⟩ := h
    rfl
  obtain ⟨a, cs, rfl, hS, hn, q⟩ := h
  refine ⟨_, (pss_cons (ps_set (i := 1) sc_law_runs.nd rfl (Or.inl rfl) (pe_lst pa_nil)) (pss_cons (ps_for PassesOwn.never rfl (pi_range1 rfl T.range (pa_cons (pe_callB (show CallR _ _ (fun xs H Q => ∃ p ys, xs = [V.ref p] ∧ (SqL K H p ys ∨ SqT K H p ys) ∧ Q (.int ys.length) H) from call_len_seq) (by rfl) T.len PySem.boot_len (pa_cons (pv 0) pa_nil)) pa_nil)) (pg_name (i := 2) sc_law_runs.nd rfl (Or.inl rfl))
      (pss_one (ps_if (pt_cmpR op_eq (pe_ix (show IxR _ (rIxL K) from ix_list) (pv 0) (pv 2) (fun _ _ => rfl)) pe_int (nomark _))
      (pss_one (ps_if (PW.pt (pw_and (pt_cmpR op_gt (pv 2) pe_int (nomark _)) (pw_and1 (pt_cmpR op_eq (pe_ix (show IxR _ (rIxL K) from ix_list) (pv 0) (pe_op op_sub (pv 2) pe_int) (fun _ _ => rfl)) pe_int (nomark _)))))
      (pss_one (ps_asg (pe_tup (pa_cons (pe_ix (show IxR _ (rIxT K) from ix_tup) (pe_ix (show IxR _ (rIxL K) from ix_list) (pv 1) (pe_un un_neg pe_int) (fun _ _ => rfl)) pe_int (fun _ _ => rfl)) (pa_cons (pe_op op_add (pe_ix (show IxR _ (rIxT K) from ix_tup) (pe_ix (show IxR _ (rIxL K) from ix_list) (pv 1) (pe_un un_neg pe_int) (fun _ _ => rfl)) pe_int (fun _ _ => rfl)) pe_int) pa_nil))) (pg_sub (pv 1) (pe_un un_neg pe_int) set_list)))
      (pss_one (ps_expr (pe_bm PySem.F.plainAttrs_list PySem.F.slot_list_append PySem.F.type_list_append mt_append (pv 1) (pa_cons (pe_tup (pa_cons (pv 2) (pa_cons pe_int pa_nil))) pa_nil))))))
      pss_nil))) (pss_one (ps_ret (pv 1))))), ?_⟩
  try dsimp only [cxOf, Cx.nox, Cx.wish]
  rw [show start ["cells", "runs", "at"] [V.ref a] = [some (V.ref a), none, none] from rfl]
  walk_at "rd"
  refine ⟨by walk_at "sml", fun D nD => ?_⟩
  refine upd_new nD fun H1 hD s1 => ?_
  walk_at "rd"
  refine r_lenL (s1.seq hS) ?_
  walk_at "rd"
  rw [List.length_map]
  refine And.intro (by omega) ⟨by omega, ?_⟩
  refine for_range (lo := 0) (n := cs.length) (fun k σ H' => ∃ (x2 : Option V) (ts : List Addr), σ = [some (.ref a), some (.ref D), x2] ∧ Same H H' ∧ H' D = some (.lst (ts.map V.ref)) ∧ TL bV H' ts (runsTo (fun i => cs.getD i 0) k))
    ⟨_, [], rfl, s1, hD, .nil⟩ ?_ ?_
  · rintro k σ H2 hk ⟨x2, ts, rfl, s2, hD2, ht⟩
    rw [Int.zero_add]
    have at_k := at_int (ns := cs) (i := (k : Int)) (by omega) (by omega)
    rw [Int.toNat_natCast] at at_k
    have hS2 := s2.seq hS
    have hlt : ts.length ≤ k := by rw [ht.1]; exact runsTo_len k
    walk_at "rd"
    refine r_ite (fun c0 => ?_) (fun c0 => ?_)
    · walk_at "rd"
      refine r_ite (fun c1 => ?_) (fun c1 => ?_)
      · have hk1 : 0 < k := by omega
        have at_k1 := at_int (ns := cs) (i := (k : Int) - 1) (by omega) (by omega)
        rw [show ((k : Int) - 1).toNat = k - 1 by omega] at at_k1
        walk_at "rd"
        refine r_ite (fun c2 => ?_) (fun c2 => ?_)
        · obtain ⟨G, g, eg⟩ : ∃ G g, runsTo (fun i => cs.getD i 0) k = G ++ [g] := by
            have hne := runsTo_ne (c := fun i => cs.getD i 0) hk1 c2
            exact snoc_of hne
          rw [eg] at ht
          obtain ⟨ts0, tl, rfl, ht0, htl⟩ := ht.unsnoc
          have at_l : atI ((ts0 ++ [tl]).map V.ref) (-1) = some (.ref tl) := by rw [List.map_append]; exact atI_last _ _
          walk_at "rd"
          refine ⟨by walk_at "sml", fun t nt => ?_⟩
          refine upd_new nt fun H3 ht3 s3 => ?_
          walk_at "rd"
          refine r_setL (s3 _ _ hD2) (j := ts0.length) ?_ fun H4 hD4 u4 => ?_
          · rw [List.length_map, List.length_append]
            exact ixN_last _
          · rw [set_last] at hD4
            refine ⟨_, ts0 ++ [t], rfl, u4.new nD (s2.trans s3), hD4, ?_⟩
            rw [runsTo, if_pos c0, if_pos ⟨hk1, c2⟩, eg, List.dropLast_concat, List.getLastD_concat]
            exact ((ht0.same s3).but u4 (s3 _ _ hD2)).snoc (u4 _ _ (ne_of ht3 (s3 _ _ hD2) (by intro z; cases z)) ht3)
        · walk_at "rd"
          refine ⟨ty_lst hD2, ?_⟩
          walk_at "rd"
          refine ⟨by walk_at "sml", fun t nt => ?_⟩
          refine upd_new nt fun H3 ht3 s3 => ?_
          walk_at "rd"
          refine r_app (s3 _ _ hD2) (by rw [List.length_map, sizeLine_eq]; omega) fun H4 hD4 u4 => ?_
          walk_at "rd"
          refine ⟨_, ts ++ [t], rfl, u4.new nD (s2.trans s3), by rw [hD4, List.map_append]; rfl, ?_⟩
          rw [runsTo, if_pos c0, if_neg (fun z => c2 z.2)]
          exact ((ht.same s3).but u4 (s3 _ _ hD2)).snoc (u4 _ _ (ne_of ht3 (s3 _ _ hD2) (by intro z; cases z)) ht3)
      · walk_at "rd"
        refine ⟨ty_lst hD2, ?_⟩
        walk_at "rd"
        refine ⟨by walk_at "sml", fun t nt => ?_⟩
        refine upd_new nt fun H3 ht3 s3 => ?_
        walk_at "rd"
        refine r_app (s3 _ _ hD2) (by rw [List.length_map, sizeLine_eq]; omega) fun H4 hD4 u4 => ?_
        walk_at "rd"
        refine ⟨_, ts ++ [t], rfl, u4.new nD (s2.trans s3), by rw [hD4, List.map_append]; rfl, ?_⟩
        rw [runsTo, if_pos c0, if_neg (fun z => c1 (by omega))]
        exact ((ht.same s3).but u4 (s3 _ _ hD2)).snoc (u4 _ _ (ne_of ht3 (s3 _ _ hD2) (by intro z; cases z)) ht3)
    · walk_at "rd"
      refine ⟨_, ts, rfl, s2, hD2, ?_⟩
      rw [runsTo, if_neg c0]
      exact ht
  · rintro σ H2 ⟨x2, ts, rfl, s2, hD2, ht⟩
    walk_at "rd"
    exact q D H2 nD s2 ⟨ts, hD2, ht⟩
end
end Pf

namespace Pf
open PySem L2
local macro_rules | `(tactic| walk_at "rd1") => `(tactic| first
  | with_reducible refine r_seqA ?_
  | with_reducible refine r_seqD ?_
  | with_reducible refine r_seqF ?_
  | with_reducible refine r_seqN ?_
  | with_reducible refine r_asg ?_
  | with_reducible refine r_drop ?_
  | with_reducible refine r_ret ?_
  | with_reducible refine r_ifS ?_
  | ((with_reducible refine r_next ?_); try dsimp only)
  | ((with_reducible refine r_name ?_); try dsimp only [List.set_cons_succ, List.set_cons_zero, wipe])
  | ((with_reducible refine' r_var ?rdh ?_); (case rdh => rfl))
  | with_reducible refine r_c ?_
  | with_reducible refine r_op ?_
  | with_reducible refine r_un ?_
  | with_reducible refine r_I0 ?_
  | ((with_reducible refine r_I ?_ ?_); (· first | decide | exact Or.inl (by decide) | exact Or.inr (by decide) | (show _ ∧ _; constructor <;> decide) | (show (0:Int) < _; omega) | (show CDiv _ _; unfold CDiv; omega) ))
  | with_reducible refine r_U ?_
  | with_reducible refine r_eqI ?_
  | with_reducible refine r_neI ?_
  | with_reducible refine r_eqB ?_
  | with_reducible refine r_neB ?_
  | with_reducible refine r_test ?_
  | with_reducible refine r_B ?_
  | with_reducible refine r_bl ?_
  | with_reducible refine r_bl2 ?_
  | with_reducible refine r_yes ?_
  | with_reducible refine r_wipe (by rfl) ?_
  | with_reducible refine r_rfl ?_
  | ((with_reducible refine' r_eqA ?rdh ?_); (case rdh => rfl))
  | with_reducible refine r_and ?_
  | with_reducible refine r_or ?_
  | with_reducible refine r_not ?_
  | with_reducible refine r_andV ?_
  | with_reducible refine r_orV ?_
  | with_reducible refine r_notV ?_
  | with_reducible refine r_ifE ?_
  | with_reducible refine r_nil ?_
  | with_reducible refine r_cons ?_
  | with_reducible refine r_tup ?_
  | with_reducible refine r_lst ?_
  | with_reducible refine r_CB ?_
  | with_reducible refine r_call ?_
  | with_reducible refine r_bm ?_
  | with_reducible refine r_bm0 ?_
  | with_reducible refine r_int ?_
  | with_reducible refine r_i2 ?_
  | with_reducible refine r_i1 ?_
  | with_reducible refine r_gcons ?_
  | with_reducible refine r_gnil ?_
  | with_reducible refine r_gsub ?_
  | with_reducible refine iteT ?_
  | with_reducible refine iteF ?_
  | with_reducible refine ite_notT ?_
  | with_reducible refine ite_notF ?_
  | with_reducible refine r_isi_ib ?_
  | with_reducible refine r_isi_ii ?_
  | with_reducible refine r_isi_bb ?_
  | with_reducible refine r_isi_nb ?_
  | with_reducible refine r_isi_nt ?_
  | ((with_reducible refine' r_isi_ll ?rdh ?_); (case rdh => first | assumption | exact upd_same))
  | ((with_reducible refine' r_isi_tt ?rdh ?_); (case rdh => first | assumption | exact upd_same))
  | with_reducible refine r_sl ?_
  | with_reducible refine r_noPart ?_
  | with_reducible refine r_part ?_
  | with_reducible refine r_int1 ?_
  | with_reducible refine r_tru ?_
  | with_reducible refine r_ckw ?_
  | with_reducible refine r_lc ?_
  | with_reducible refine r_lc2 ?_
  | with_reducible refine r_forS ?_
  | with_reducible refine r_iR1 ?_
  | with_reducible refine r_iR2 ?_
  | with_reducible refine r_iL ?_
  | ((with_reducible refine' r_lenL ?rdh ?_); (case rdh => walk_at "sq"))
  | ((with_reducible refine' r_ixL ?rdh ?rda ?_); (case rdh => walk_at "sq"); (case rda => walk_at "at"))
  | ((with_reducible refine' r_ixT ?rdh ?rda ?_); (case rdh => walk_at "sq"); (case rda => walk_at "at")))
local macro_rules | `(tactic| walk_at "sq") => `(tactic| first
  | assumption
  | exact SqL.of (by assumption)
  | exact SqL.of upd_same
  | exact SqT.of (by assumption)
  | exact SqT.of upd_same)
local macro_rules | `(tactic| walk_at "sml") => `(tactic| (rw [sizeLine_eq]; simp))
local macro_rules | `(tactic| walk_at "at") => `(tactic| first | assumption | rfl)
local macro_rules | `(tactic| walk_at "rd") => `(tactic| repeat walk_at "rd1")
section
variable {w : World} {P : Program} {base : Heap} {K : PySem.W.Frag} {mg : Str → Option Value}
def sp_is_blocks : Sp := fun vs H Q _ => ∃ (a : Addr) (bs : List (Int × Int)), vs = [.ref a] ∧ LT bV H a bs ∧ Q (.bl true) H
theorem mk_law_is_blocks {f : Addr} {fd : FuncData} (T : Txt mg) (F : Fun K "_law_is_blocks" "_law_is_blocks" s_law_is_blocks f fd) (m : mg "_law_is_blocks" = some (.ref f)) (b : Binds K fd ["xs"] []) :
    Cal P w K mg base "_law_is_blocks" 1 f fd ["xs"] sp_is_blocks := by
  refine ⟨F.ok sc_law_is_blocks (fun vs H Q E h => ?_) (fun cdv A outer s H vs Q E hr h => ?_), m, F.kp, b⟩
  · obtain ⟨a, bs, rfl, _⟩ := h
    rfl
  obtain ⟨a, bs, rfl, ⟨ts, ha, ht⟩, q⟩ := h
  refine ⟨_, (pss_cons (ps_if (pt_not (pt_val (pe_callB (show CallR _ _ (rIsi K) from call_isi) (by rfl) T.isinstance (by decide +kernel) (pa_cons (pv 0) (pa_cons (pe_bltn (v := .ty "list") (u := .type "list") rfl T.list (by decide +kernel) rfl) pa_nil)))))
      (pss_one (ps_ret pe_bl))
      pss_nil) (pss_cons (ps_for PassesOwn.never rfl (pi_list (pv 0)) (pg_name (i := 1) sc_law_is_blocks.nd rfl (Or.inl rfl))
      (pss_one (ps_if (PW.pt (pw_or (pt_not (pt_val (pe_callB (show CallR _ _ (rIsi K) from call_isi) (by rfl) T.isinstance (by decide +kernel) (pa_cons (pv 1) (pa_cons (pe_bltn (v := .ty "tuple") (u := .type "tuple") rfl T.tuple (by decide +kernel) rfl) pa_nil))))) (pw_or (pt_cmpR op_ne (pe_callB (show CallR _ _ (fun xs H Q => ∃ p ys, xs = [V.ref p] ∧ (SqL K H p ys ∨ SqT K H p ys) ∧ Q (.int ys.length) H) from call_len_seq) (by rfl) T.len PySem.boot_len (pa_cons (pv 1) pa_nil)) pe_int (nomark _)) (pw_or (pt_val (pe_callB (show CallR _ _ (rIsi K) from call_isi) (by rfl) T.isinstance (by decide +kernel) (pa_cons (pe_ix (show IxR _ (rIxT K) from ix_tup) (pv 1) pe_int (fun _ _ => rfl)) (pa_cons (pe_bltn (v := .ty "bool") (u := .type "bool") rfl T.bool (by decide +kernel) rfl) pa_nil)))) (pw_or1 (pt_val (pe_callB (show CallR _ _ (rIsi K) from call_isi) (by rfl) T.isinstance (by decide +kernel) (pa_cons (pe_ix (show IxR _ (rIxT K) from ix_tup) (pv 1) pe_int (fun _ _ => rfl)) (pa_cons (pe_bltn (v := .ty "bool") (u := .type "bool") rfl T.bool (by decide +kernel) rfl) pa_nil)))))))))
      (pss_one (ps_ret pe_bl))
      pss_nil))) (pss_one (ps_ret pe_bl)))), ?_⟩
  try dsimp only [cxOf, Cx.nox, Cx.wish]
  rw [show start ["xs", "x"] [V.ref a] = [some (V.ref a), none] from rfl]
  refine r_seq ?_
  walk_at "rd"
  refine r_iL2 (SqL.of ha) ?_
  refine for_list (K := K) (a := a) (xs := ts.map V.ref) (fun i σ H' => ∃ (x1 : Option V), σ = [some (.ref a), x1] ∧ H' = H)
    ⟨none, rfl, rfl⟩ (fun i σ H' _ ⟨_, _, e⟩ => e ▸ SqL.of ha) ?_ ?_
  · rintro i x σ H' hx ⟨x1, rfl, rfl⟩
    rw [List.getElem?_map] at hx
    obtain ⟨t, et, rfl⟩ := Option.map_eq_some_iff.mp hx
    obtain ⟨x, eb, htup⟩ := ht.2 i t et
    walk_at "rd"
    refine r_lenT (SqT.of htup) ?_
    walk_at "rd"
    refine r_iteN (fun c => absurd rfl c) (fun _ => ?_)
    walk_at "rd"
    exact ⟨_, rfl, rfl⟩
  · rintro σ H' ⟨x1, rfl, rfl⟩
    walk_at "rd"
    exact q
end
end Pf

namespace Pf
open PySem L2
local macro_rules | `(tactic| walk_at "rd1") => `(tactic| first
  | with_reducible refine r_seqA ?_
  | with_reducible refine r_seqD ?_
  | with_reducible refine r_seqF ?_
  | with_reducible refine r_seqN ?_
  | with_reducible refine r_asg ?_
  | with_reducible refine r_drop ?_
  | with_reducible refine r_ret ?_
  | with_reducible refine r_ifS ?_
  | ((with_reducible refine r_next ?_); try dsimp only)
  | ((with_reducible refine r_name ?_); try dsimp only [List.set_cons_succ, List.set_cons_zero, wipe])
  | ((with_reducible refine' r_var ?rdh ?_); (case rdh => rfl))
  | with_reducible refine r_c ?_
  | with_reducible refine r_op ?_
  | with_reducible refine r_un ?_
  | with_reducible refine r_I0 ?_
  | ((with_reducible refine r_I ?_ ?_); (· first | decide | exact Or.inl (by decide) | exact Or.inr (by decide) | (show _ ∧ _; constructor <;> decide) | (show (0:Int) < _; omega) | (show CDiv _ _; unfold CDiv; omega) ))
  | with_reducible refine r_U ?_
  | with_reducible refine r_eqI ?_
  | with_reducible refine r_neI ?_
  | with_reducible refine r_eqB ?_
  | with_reducible refine r_neB ?_
  | with_reducible refine r_test ?_
  | with_reducible refine r_B ?_
  | with_reducible refine r_bl ?_
  | with_reducible refine r_bl2 ?_
  | with_reducible refine r_yes ?_
  | with_reducible refine r_wipe (by rfl) ?_
  | with_reducible refine r_rfl ?_
  | ((with_reducible refine' r_eqA ?rdh ?_); (case rdh => rfl))
  | with_reducible refine r_and ?_
  | with_reducible refine r_or ?_
  | with_reducible refine r_not ?_
  | with_reducible refine r_andV ?_
  | with_reducible refine r_orV ?_
  | with_reducible refine r_notV ?_
  | with_reducible refine r_ifE ?_
  | with_reducible refine r_nil ?_
  | with_reducible refine r_cons ?_
  | with_reducible refine r_tup ?_
  | with_reducible refine r_lst ?_
  | with_reducible refine r_CB ?_
  | with_reducible refine r_call ?_
  | with_reducible refine r_bm ?_
  | with_reducible refine r_bm0 ?_
  | with_reducible refine r_int ?_
  | with_reducible refine r_i2 ?_
  | with_reducible refine r_i1 ?_
  | with_reducible refine r_gcons ?_
  | with_reducible refine r_gnil ?_
  | with_reducible refine r_gsub ?_
  | with_reducible refine iteT ?_
  | with_reducible refine iteF ?_
  | with_reducible refine ite_notT ?_
  | with_reducible refine ite_notF ?_
  | with_reducible refine r_isi_ib ?_
  | with_reducible refine r_isi_ii ?_
  | with_reducible refine r_isi_bb ?_
  | with_reducible refine r_isi_nb ?_
  | with_reducible refine r_isi_nt ?_
  | ((with_reducible refine' r_isi_ll ?rdh ?_); (case rdh => first | assumption | exact upd_same))
  | ((with_reducible refine' r_isi_tt ?rdh ?_); (case rdh => first | assumption | exact upd_same))
  | with_reducible refine r_sl ?_
  | with_reducible refine r_noPart ?_
  | with_reducible refine r_part ?_
  | with_reducible refine r_int1 ?_
  | with_reducible refine r_tru ?_
  | with_reducible refine r_ckw ?_
  | with_reducible refine r_lc ?_
  | with_reducible refine r_lc2 ?_
  | with_reducible refine r_forS ?_
  | with_reducible refine r_iR1 ?_
  | with_reducible refine r_iR2 ?_
  | with_reducible refine r_iL ?_
  | ((with_reducible refine' r_lenL ?rdh ?_); (case rdh => walk_at "sq"))
  | ((with_reducible refine' r_ixL ?rdh ?rda ?_); (case rdh => walk_at "sq"); (case rda => walk_at "at"))
  | ((with_reducible refine' r_ixT ?rdh ?rda ?_); (case rdh => walk_at "sq"); (case rda => walk_at "at")))
local macro_rules | `(tactic| walk_at "sq") => `(tactic| first
  | assumption
  | exact SqL.of (by assumption)
  | exact SqL.of upd_same
  | exact SqT.of (by assumption)
  | exact SqT.of upd_same)
local macro_rules | `(tactic| walk_at "sml") => `(tactic| (rw [sizeLine_eq]; simp))
local macro_rules | `(tactic| walk_at "at") => `(tactic| first | assumption | rfl)
local macro_rules | `(tactic| walk_at "rd") => `(tactic| repeat walk_at "rd1")
section
variable {w : World} {P : Program} {base : Heap} {K : PySem.W.Frag} {mg : Str → Option Value}
/-! ### is_layout -/
def lay (size : Int) : Int → List (Int × Int) → Bool
  | e, [] => decide (e ≤ size)
  | e, (s, l) :: r => if s < e ∨ l < 1 then false else lay size (s + l) r
def sp_is_layout : Sp := fun vs H Q _ => ∃ (a : Addr) (size : Int) (bs : List (Int × Int)), vs = [.int size, .ref a] ∧ LT bV H a bs ∧ Q (.bl (lay size 0 bs)) H
theorem mk_is_layout {f : Addr} {fd : FuncData} (T : Txt mg) (F : Fun K "is_layout" "is_layout" s_is_layout f fd) (m : mg "is_layout" = some (.ref f)) (b : Binds K fd ["size", "layout"] []) :
    Cal P w K mg base "is_layout" 1 f fd ["size", "layout"] sp_is_layout := by
  refine ⟨F.ok sc_is_layout (fun vs H Q E h => ?_) (fun cdv A outer s H vs Q E hr h => ?_), m, F.kp, b⟩
  · obtain ⟨a, size, bs, rfl, _⟩ := h
    rfl
  obtain ⟨a, size, bs, rfl, ⟨ts, ha, ht⟩, q⟩ := h
  refine ⟨_, (pss_cons (ps_set (i := 2) sc_is_layout.nd rfl (Or.inl rfl) pe_int) (pss_cons (ps_for PassesOwn.never rfl (pi_list (pv 1)) (pg_tup rfl (pgs_cons (pg_name (i := 3) sc_is_layout.nd rfl (Or.inl rfl)) (pgs_cons (pg_name (i := 4) sc_is_layout.nd rfl (Or.inl rfl)) pgs_nil)))
      (pss_cons (ps_if (PW.pt (pw_or (pt_cmpR op_lt (pv 3) (pv 2) (nomark _)) (pw_or1 (pt_cmpR op_lt (pv 4) pe_int (nomark _)))))
      (pss_one (ps_ret pe_bl))
      pss_nil) (pss_one (ps_set (i := 2) sc_is_layout.nd rfl (Or.inl rfl) (pe_op op_add (pv 3) (pv 4)))))) (pss_one (ps_ret (pe_cmpR op_le (pv 2) (pv 0) (nomark _)))))), ?_⟩
  try dsimp only [cxOf, Cx.nox, Cx.wish]
  rw [show start ["size", "layout", "end", "start", "length"] [V.int size, V.ref a] = [some (V.int size), some (V.ref a), none, none, none] from rfl]
  walk_at "rd"
  refine r_iL2 (SqL.of ha) ?_
  refine for_list (K := K) (a := a) (xs := ts.map V.ref) (fun i σ H' => ∃ (e : Int) (x3 x4 : Option V), σ = [some (.int size), some (.ref a), some (.int e), x3, x4] ∧ H' = H ∧ lay size 0 bs = lay size e (bs.drop i))
    ⟨0, none, none, rfl, rfl, rfl⟩ (fun i σ H' _ ⟨_, _, _, _, e, _⟩ => e ▸ SqL.of ha) ?_ ?_
  · rintro i x σ H' hx ⟨e, x3, x4, rfl, rfl, he⟩
    rw [List.getElem?_map] at hx
    obtain ⟨t, et, rfl⟩ := Option.map_eq_some_iff.mp hx
    obtain ⟨⟨s, l⟩, eb, htup⟩ := ht.2 i t et
    refine r_gtup (SqT.of htup) rfl ?_
    walk_at "rd"
    rw [drop_get eb] at he
    refine r_seq ?_
    walk_at "rd"
    refine r_ite (fun c => ?_) (fun c => ?_)
    · walk_at "rd"
      rw [he, lay, if_pos (.inl c)] at q
      exact q
    · walk_at "rd"
      refine r_ite (fun c2 => ?_) (fun c2 => ?_)
      · walk_at "rd"
        rw [he, lay, if_pos (.inr c2)] at q
        exact q
      · walk_at "rd"
        rw [lay, if_neg (by simp only [not_or]; exact ⟨c, c2⟩)] at he
        exact ⟨_, _, _, rfl, rfl, he⟩
  · rintro σ H' ⟨e, x3, x4, rfl, rfl, he⟩
    rw [List.length_map, ht.1, List.drop_length, lay] at he
    walk_at "rd"
    rw [he] at q
    exact q
end
end Pf

namespace Pf
open PySem L2
local macro_rules | `(tactic| walk_at "rd1") => `(tactic| first
  | with_reducible refine r_seqA ?_
  | with_reducible refine r_seqD ?_
  | with_reducible refine r_seqF ?_
  | with_reducible refine r_seqN ?_
  | with_reducible refine r_asg ?_
  | with_reducible refine r_drop ?_
  | with_reducible refine r_ret ?_
  | with_reducible refine r_ifS ?_
  | ((with_reducible refine r_next ?_); try dsimp only)
  | ((with_reducible refine r_name ?_); try dsimp only [List.set_cons_succ, List.set_cons_zero, wipe])
  | ((with_reducible refine' r_var ?rdh ?_); (case rdh => rfl))
  | with_reducible refine r_c ?_
  | with_reducible refine r_op ?_
  | with_reducible refine r_un ?_
  | with_reducible refine r_I0 ?_
  | ((with_reducible refine r_I ?_ ?_); (· first | decide | exact Or.inl (by decide) | exact Or.inr (by decide) | (show _ ∧ _; constructor <;> decide) | (show (0:Int) < _; omega) | (show CDiv _ _; unfold CDiv; omega) ))
  | with_reducible refine r_U ?_
  | with_reducible refine r_eqI ?_
  | with_reducible refine r_neI ?_
  | with_reducible refine r_eqB ?_
  | with_reducible refine r_neB ?_
  | with_reducible refine r_test ?_
  | with_reducible refine r_B ?_
  | with_reducible refine r_bl ?_
  | with_reducible refine r_bl2 ?_
  | with_reducible refine r_yes ?_
  | with_reducible refine r_wipe (by rfl) ?_
  | with_reducible refine r_rfl ?_
  | ((with_reducible refine' r_eqA ?rdh ?_); (case rdh => rfl))
  | with_reducible refine r_and ?_
  | with_reducible refine r_or ?_
  | with_reducible refine r_not ?_
  | with_reducible refine r_andV ?_
  | with_reducible refine r_orV ?_
  | with_reducible refine r_notV ?_
  | with_reducible refine r_ifE ?_
  | with_reducible refine r_nil ?_
  | with_reducible refine r_cons ?_
  | with_reducible refine r_tup ?_
  | with_reducible refine r_lst ?_
  | with_reducible refine r_CB ?_
  | with_reducible refine r_call ?_
  | with_reducible refine r_bm ?_
  | with_reducible refine r_bm0 ?_
  | with_reducible refine r_int ?_
  | with_reducible refine r_i2 ?_
  | with_reducible refine r_i1 ?_
  | with_reducible refine r_gcons ?_
  | with_reducible refine r_gnil ?_
  | with_reducible refine r_gsub ?_
  | with_reducible refine iteT ?_
  | with_reducible refine iteF ?_
  | with_reducible refine ite_notT ?_
  | with_reducible refine ite_notF ?_
  | with_reducible refine r_isi_ib ?_
  | with_reducible refine r_isi_ii ?_
  | with_reducible refine r_isi_bb ?_
  | with_reducible refine r_isi_nb ?_
  | with_reducible refine r_isi_nt ?_
  | ((with_reducible refine' r_isi_ll ?rdh ?_); (case rdh => first | assumption | exact upd_same))
  | ((with_reducible refine' r_isi_tt ?rdh ?_); (case rdh => first | assumption | exact upd_same))
  | with_reducible refine r_sl ?_
  | with_reducible refine r_noPart ?_
  | with_reducible refine r_part ?_
  | with_reducible refine r_int1 ?_
  | with_reducible refine r_tru ?_
  | with_reducible refine r_ckw ?_
  | with_reducible refine r_lc ?_
  | with_reducible refine r_lc2 ?_
  | with_reducible refine r_forS ?_
  | with_reducible refine r_iR1 ?_
  | with_reducible refine r_iR2 ?_
  | with_reducible refine r_iL ?_
  | ((with_reducible refine' r_lenL ?rdh ?_); (case rdh => walk_at "sq"))
  | ((with_reducible refine' r_ixL ?rdh ?rda ?_); (case rdh => walk_at "sq"); (case rda => walk_at "at"))
  | ((with_reducible refine' r_ixT ?rdh ?rda ?_); (case rdh => walk_at "sq"); (case rda => walk_at "at")))
local macro_rules | `(tactic| walk_at "sq") => `(tactic| first
  | assumption
  | exact SqL.of (by assumption)
  | exact SqL.of upd_same
  | exact SqT.of (by assumption)
  | exact SqT.of upd_same)
local macro_rules | `(tactic| walk_at "sml") => `(tactic| (rw [sizeLine_eq]; simp))
local macro_rules | `(tactic| walk_at "at") => `(tactic| first | assumption | rfl)
local macro_rules | `(tactic| walk_at "rd") => `(tactic| repeat walk_at "rd1")
section
variable {w : World} {P : Program} {base : Heap} {K : PySem.W.Frag} {mg : Str → Option Value}
def gf : Int → List (Int × Int) → List (Int × Int)
  | _, [] => []
  | e, (s, l) :: r => (if s > e then [(e, s - e)] else []) ++ gf (s + l) r
theorem gf_gaps (size : Int) : ∀ (bs : List (Int × Int)) (e : Int), gf e (bs ++ [(size, 0)]) = gapsF size e bs
  | [], e => by
    show (if size > e then [(e, size - e)] else []) ++ [] = gapsF size e []
    rw [List.append_nil, gapsF]
  | (s, l) :: r, e => by
    show (if s > e then [(e, s - e)] else []) ++ gf (s + l) (r ++ [(size, 0)]) = _
    rw [gf_gaps size r, gapsF]
    by_cases c : s > e
    · rw [if_pos c, if_pos c]; rfl
    · rw [if_neg c, if_neg c]; rfl
theorem gapsF_len (size : Int) : ∀ (bs : List (Int × Int)) (e : Int), (gapsF size e bs).length ≤ bs.length + 1
  | [], e => by rw [gapsF]; split <;> simp
  | (s, l) :: r, e => by
    have ih := gapsF_len size r (s + l)
    rw [gapsF]
    split <;> simp <;> omega
def liveF (bs : List (Int × Int)) : Int := (bs.map (·.2)).sum
def gapSum (gs : List (Int × Int)) : Int := (gs.map (·.2)).sum
def grtF (gs : List (Int × Int)) : Int := match gs.map (·.2) with | [] => 0 | n :: r => r.foldl max n
theorem gap_pos (size : Int) : ∀ (bs : List (Int × Int)) (e : Int), ∀ g ∈ gapsF size e bs, 1 ≤ g.2
  | [], e, g, h => by
    rw [gapsF] at h
    split at h
    · rw [List.mem_singleton.mp h]; simp only; omega
    · simp at h
  | (s, l) :: r, e, g, h => by
    rw [gapsF] at h
    split at h
    · obtain rfl | h := List.mem_cons.mp h
      · simp only; omega
      · exact gap_pos size r (s + l) g h
    · exact gap_pos size r (s + l) g h
theorem gap_sum {size : Int} : ∀ {bs : List (Int × Int)} {e : Int}, VL size e bs → liveF bs + gapSum (gapsF size e bs) = size - e
  | [], e, h => by
    have h' : e ≤ size := h
    rw [gapsF]
    unfold liveF gapSum
    split <;> simp <;> omega
  | (s, l) :: r, e, h => by
    have ih := gap_sum h.2.2
    have h1 := h.1
    rw [gapsF]
    unfold liveF gapSum at *
    split <;> simp only [List.map_cons, List.sum_cons] <;> omega
theorem max_mem : ∀ (r : List Int) (n : Int), (r.foldl max n = n ∨ r.foldl max n ∈ r) ∧ n ≤ r.foldl max n ∧ ∀ x ∈ r, x ≤ r.foldl max n
  | [], n => ⟨.inl rfl, Int.le_refl _, fun x h => by simp at h⟩
  | y :: r, n => by
    obtain ⟨h1, h2, h3⟩ := max_mem r (max n y)
    rw [List.foldl_cons]
    refine And.intro ?_ ⟨by omega, fun x hx => ?_⟩
    · rcases h1 with h1 | h1
      · rw [h1]
        by_cases c : n ≤ y
        · right; rw [Int.max_eq_right c]; exact List.mem_cons_self
        · left; omega
      · exact .inr (List.mem_cons_of_mem _ h1)
    · obtain rfl | hx := List.mem_cons.mp hx
      · omega
      · exact h3 x hx
theorem grt_ge {gs : List (Int × Int)} {g : Int × Int} (h : g ∈ gs) : g.2 ≤ grtF gs := by
  unfold grtF
  have hm : g.2 ∈ gs.map (·.2) := List.mem_map_of_mem h
  generalize gs.map (·.2) = ns at hm
  cases ns with
  | nil => simp at hm
  | cons n r =>
    obtain ⟨h1, h2, h3⟩ := max_mem r n
    obtain e | hm := List.mem_cons.mp hm
    · rw [e]; exact h2
    · exact h3 _ hm
theorem sum_nonneg : ∀ {ns : List Int}, (∀ x ∈ ns, 0 ≤ x) → 0 ≤ ns.sum
  | [], _ => Int.le_refl _
  | n :: r, h => by
    have := sum_nonneg (ns := r) fun x hx => h x (List.mem_cons_of_mem _ hx)
    have := h n List.mem_cons_self
    rw [List.sum_cons]
    omega
theorem mem_le_sum : ∀ {ns : List Int} {x : Int}, (∀ x ∈ ns, 0 ≤ x) → x ∈ ns → x ≤ ns.sum
  | n :: r, x, h, hx => by
    have h1 := sum_nonneg (ns := r) fun x hx => h x (List.mem_cons_of_mem _ hx)
    have h2 := h n List.mem_cons_self
    rw [List.sum_cons]
    obtain rfl | hx := List.mem_cons.mp hx
    · omega
    · have := mem_le_sum (fun x hx => h x (List.mem_cons_of_mem _ hx)) hx
      omega
theorem grt_le {gs : List (Int × Int)} (h : ∀ g ∈ gs, 1 ≤ g.2) : 0 ≤ grtF gs ∧ grtF gs ≤ gapSum gs := by
  unfold grtF gapSum
  have hm : ∀ x ∈ gs.map (·.2), 0 ≤ x := fun x hx => by
    obtain ⟨g, hg, rfl⟩ := List.mem_map.mp hx
    have := h g hg
    omega
  generalize gs.map (·.2) = ns at hm
  cases ns with
  | nil => simp
  | cons n r =>
    obtain ⟨h1, h2, h3⟩ := max_mem r n
    have := hm n List.mem_cons_self
    refine ⟨by show 0 ≤ r.foldl max n; omega, ?_⟩
    show r.foldl max n ≤ _
    rcases h1 with e | e
    · exact mem_le_sum hm (by rw [e]; exact List.mem_cons_self)
    · exact mem_le_sum hm (List.mem_cons_of_mem _ e)
theorem live_nonneg {size e : Int} {bs : List (Int × Int)} (h : VL size e bs) : 0 ≤ liveF bs :=
  sum_nonneg fun x hx => by
    obtain ⟨g, hg, rfl⟩ := List.mem_map.mp hx
    have := h.mem g hg
    omega
theorem gap_in {size : Int} : ∀ {bs : List (Int × Int)} {e : Int}, VL size e bs → ∀ g ∈ gapsF size e bs, e ≤ g.1 ∧ g.1 + g.2 ≤ size
  | [], e, h, g, hg => by
    rw [gapsF] at hg
    split at hg
    · rw [List.mem_singleton.mp hg]
      simp only
      omega
    · simp at hg
  | (s, l) :: r, e, h, g, hg => by
    have h1 := h.1
    have h2 := h.2.1
    have h3 := h.2.2.le_size
    rw [gapsF] at hg
    split at hg
    · obtain rfl | hg := List.mem_cons.mp hg
      · simp only
        omega
      · have := gap_in h.2.2 g hg
        omega
    · have := gap_in h.2.2 g hg
      omega
def sp_gaps : Sp := fun vs H Q _ => ∃ (a : Addr) (size : Int) (bs : List (Int × Int)), vs = [.int size, .ref a] ∧ LT bV H a bs ∧ bs.length ≤ 1000 ∧
  ∀ (p : Addr) (H' : Hp), H p = none → Same H H' → LT bV H' p (gapsF size 0 bs) → Q (.ref p) H'
theorem mk_gaps {f : Addr} {fd : FuncData} (T : Txt mg) (F : Fun K "gaps" "gaps" s_gaps f fd) (m : mg "gaps" = some (.ref f)) (b : Binds K fd ["size", "layout"] []) :
    Cal P w K mg base "gaps" 1 f fd ["size", "layout"] sp_gaps := by
  refine ⟨F.ok sc_gaps (fun vs H Q E h => ?_) (fun cdv A outer s H vs Q E hr h => ?_), m, F.kp, b⟩
  · obtain ⟨a, size, bs, rfl, _⟩ := h
    rfl
  obtain ⟨a, size, bs, rfl, ⟨ts, ha, ht⟩, hlen, q⟩ := h
  have hl := ht.1
  refine ⟨_, (pss_cons (ps_set (i := 2) sc_gaps.nd rfl (Or.inl rfl) (pe_lst pa_nil)) (pss_cons (ps_set (i := 3) sc_gaps.nd rfl (Or.inl rfl) pe_int) (pss_cons (ps_for PassesOwn.never rfl (pi_list (pe_op op_cat (pv 1) (pe_lst (pa_cons (pe_tup (pa_cons (pv 0) (pa_cons pe_int pa_nil))) pa_nil)))) (pg_tup rfl (pgs_cons (pg_name (i := 4) sc_gaps.nd rfl (Or.inl rfl)) (pgs_cons (pg_name (i := 5) sc_gaps.nd rfl (Or.inl rfl)) pgs_nil)))
      (pss_cons (ps_if (pt_cmpR op_gt (pv 4) (pv 3) (nomark _))
      (pss_one (ps_expr (pe_bm PySem.F.plainAttrs_list PySem.F.slot_list_append PySem.F.type_list_append mt_append (pv 2) (pa_cons (pe_tup (pa_cons (pv 3) (pa_cons (pe_op op_sub (pv 4) (pv 3)) pa_nil))) pa_nil))))
      pss_nil) (pss_one (ps_set (i := 3) sc_gaps.nd rfl (Or.inl rfl) (pe_op op_add (pv 4) (pv 5)))))) (pss_one (ps_ret (pv 2)))))), ?_⟩
  try dsimp only [cxOf, Cx.nox, Cx.wish]
  rw [show start ["size", "layout", "found", "end", "start", "length"] [V.int size, V.ref a] = [some (V.int size), some (V.ref a), none, none, none, none] from rfl]
  walk_at "rd"
  refine ⟨by walk_at "sml", fun D nD => ?_⟩
  refine upd_new nD fun H1 hD s1 => ?_
  walk_at "rd"
  refine ⟨by walk_at "sml", fun t0 nt0 => ?_⟩
  refine upd_new nt0 fun H2 ht0 s2 => ?_
  walk_at "rd"
  refine ⟨by walk_at "sml", fun y ny => ?_⟩
  refine upd_new ny fun H3 hy s3 => ?_
  refine r_cat (s3 _ _ (s2 _ _ (s1 _ _ ha))) hy (by rw [List.length_map, sizeLine_eq]; simp; omega) fun c nc => ?_
  refine upd_new nc fun H4 hc s4 => ?_
  have s14 := (s2.trans s3).trans s4
  have hD4 := s14 _ _ hD
  have ht4 : TL bV H4 (ts ++ [t0]) (bs ++ [(size, 0)]) := (((ht.same s1).same s14).snoc (x := (size, 0)) (s4 _ _ (s3 _ _ ht0)))
  have hc4 : H4 c = some (.lst ((ts ++ [t0]).map V.ref)) := by rw [hc, List.map_append]; rfl
  have ncD : D ≠ c := ne_of_none ((s2.trans s3) _ _ hD) nc
  refine r_iL2 (SqL.of hc4) ?_
  refine for_list (K := K) (a := c) (xs := (ts ++ [t0]).map V.ref) (fun i σ H' => ∃ (x4 x5 : Option V) (e : Int) (us : List Addr) (G : List (Int × Int)), σ = [some (.int size), some (.ref a), some (.ref D), some (.int e), x4, x5] ∧ Same H H' ∧ H' c = some (.lst ((ts ++ [t0]).map V.ref)) ∧ TL bV H' (ts ++ [t0]) (bs ++ [(size, 0)]) ∧ H' D = some (.lst (us.map V.ref)) ∧ TL bV H' us G ∧ us.length ≤ i ∧ gapsF size 0 bs = G ++ gf e ((bs ++ [(size, 0)]).drop i))
    ⟨_, _, 0, [], [], rfl, s1.trans s14, hc4, ht4, hD4, .nil, Nat.le_refl _, by rw [List.drop_zero, gf_gaps]; rfl⟩ (fun i σ H' _ ⟨_, _, _, _, _, _, _, e, _⟩ => SqL.of e) ?_ ?_
  · rintro i x σ H5 hx ⟨x4, x5, e, us, G, rfl, s5, hc5, ht5, hD5, hu5, hul, hg⟩
    rw [List.getElem?_map] at hx
    obtain ⟨t, et, rfl⟩ := Option.map_eq_some_iff.mp hx
    obtain ⟨⟨s', l'⟩, eb, htup⟩ := ht5.2 i t et
    have hi : i < ts.length + 1 := by
      have := (List.getElem?_eq_some_iff.mp et).1
      rw [List.length_append] at this
      exact this
    rw [drop_get eb, gf] at hg
    refine r_gtup (SqT.of htup) rfl ?_
    walk_at "rd"
    refine r_seq ?_
    walk_at "rd"
    refine r_ite (fun c1 => ?_) (fun c1 => ?_)
    · walk_at "rd"
      refine ⟨ty_lst hD5, ?_⟩
      walk_at "rd"
      refine ⟨by walk_at "sml", fun g ng => ?_⟩
      refine upd_new ng fun H6 hgt s6 => ?_
      walk_at "rd"
      refine r_app (s6 _ _ hD5) (by rw [List.length_map, sizeLine_eq]; omega) fun H7 hD7 u7 => ?_
      walk_at "rd"
      rw [if_pos c1] at hg
      refine ⟨_, _, _, us ++ [g], G ++ [(e, s' - e)], rfl, u7.new nD (s5.trans s6), u7 _ _ ncD.symm (s6 _ _ hc5), (ht5.same s6).but u7 (s6 _ _ hD5), by rw [hD7, List.map_append]; rfl, ((hu5.same s6).but u7 (s6 _ _ hD5)).snoc (u7 _ _ (ne_of hgt (s6 _ _ hD5) (by intro z; cases z)) hgt), by rw [List.length_append]; simp; omega, ?_⟩
      rw [hg, List.append_assoc]
    · walk_at "rd"
      rw [if_neg c1] at hg
      exact ⟨_, _, _, us, G, rfl, s5, hc5, ht5, hD5, hu5, by omega, hg⟩
  · rintro σ H5 ⟨x4, x5, e, us, G, rfl, s5, hc5, ht5, hD5, hu5, hul, hg⟩
    rw [List.length_map, ht4.1, List.drop_length, gf, List.append_nil] at hg
    walk_at "rd"
    exact q D H5 nD s5 ⟨us, hD5, hg ▸ hu5⟩
end
end Pf

namespace Pf
open PySem L2
local macro_rules | `(tactic| walk_at "rd1") => `(tactic| first
  | with_reducible refine r_seqA ?_
  | with_reducible refine r_seqD ?_
  | with_reducible refine r_seqF ?_
  | with_reducible refine r_seqN ?_
  | with_reducible refine r_asg ?_
  | with_reducible refine r_drop ?_
  | with_reducible refine r_ret ?_
  | with_reducible refine r_ifS ?_
  | ((with_reducible refine r_next ?_); try dsimp only)
  | ((with_reducible refine r_name ?_); try dsimp only [List.set_cons_succ, List.set_cons_zero, wipe])
  | ((with_reducible refine' r_var ?rdh ?_); (case rdh => rfl))
  | with_reducible refine r_c ?_
  | with_reducible refine r_op ?_
  | with_reducible refine r_un ?_
  | with_reducible refine r_I0 ?_
  | ((with_reducible refine r_I ?_ ?_); (· first | decide | exact Or.inl (by decide) | exact Or.inr (by decide) | (show _ ∧ _; constructor <;> decide) | (show (0:Int) < _; omega) | (show CDiv _ _; unfold CDiv; omega) ))
  | with_reducible refine r_U ?_
  | with_reducible refine r_eqI ?_
  | with_reducible refine r_neI ?_
  | with_reducible refine r_eqB ?_
  | with_reducible refine r_neB ?_
  | with_reducible refine r_test ?_
  | with_reducible refine r_B ?_
  | with_reducible refine r_bl ?_
  | with_reducible refine r_bl2 ?_
  | with_reducible refine r_yes ?_
  | with_reducible refine r_wipe (by rfl) ?_
  | with_reducible refine r_rfl ?_
  | ((with_reducible refine' r_eqA ?rdh ?_); (case rdh => rfl))
  | with_reducible refine r_and ?_
  | with_reducible refine r_or ?_
  | with_reducible refine r_not ?_
  | with_reducible refine r_andV ?_
  | with_reducible refine r_orV ?_
  | with_reducible refine r_notV ?_
  | with_reducible refine r_ifE ?_
  | with_reducible refine r_nil ?_
  | with_reducible refine r_cons ?_
  | with_reducible refine r_tup ?_
  | with_reducible refine r_lst ?_
  | with_reducible refine r_CB ?_
  | with_reducible refine r_call ?_
  | with_reducible refine r_bm ?_
  | with_reducible refine r_bm0 ?_
  | with_reducible refine r_int ?_
  | with_reducible refine r_i2 ?_
  | with_reducible refine r_i1 ?_
  | with_reducible refine r_gcons ?_
  | with_reducible refine r_gnil ?_
  | with_reducible refine r_gsub ?_
  | with_reducible refine iteT ?_
  | with_reducible refine iteF ?_
  | with_reducible refine ite_notT ?_
  | with_reducible refine ite_notF ?_
  | with_reducible refine r_isi_ib ?_
  | with_reducible refine r_isi_ii ?_
  | with_reducible refine r_isi_bb ?_
  | with_reducible refine r_isi_nb ?_
  | with_reducible refine r_isi_nt ?_
  | ((with_reducible refine' r_isi_ll ?rdh ?_); (case rdh => first | assumption | exact upd_same))
  | ((with_reducible refine' r_isi_tt ?rdh ?_); (case rdh => first | assumption | exact upd_same))
  | with_reducible refine r_sl ?_
  | with_reducible refine r_noPart ?_
  | with_reducible refine r_part ?_
  | with_reducible refine r_int1 ?_
  | with_reducible refine r_tru ?_
  | with_reducible refine r_ckw ?_
  | with_reducible refine r_lc ?_
  | with_reducible refine r_lc2 ?_
  | with_reducible refine r_forS ?_
  | with_reducible refine r_iR1 ?_
  | with_reducible refine r_iR2 ?_
  | with_reducible refine r_iL ?_
  | ((with_reducible refine' r_lenL ?rdh ?_); (case rdh => walk_at "sq"))
  | ((with_reducible refine' r_ixL ?rdh ?rda ?_); (case rdh => walk_at "sq"); (case rda => walk_at "at"))
  | ((with_reducible refine' r_ixT ?rdh ?rda ?_); (case rdh => walk_at "sq"); (case rda => walk_at "at")))
local macro_rules | `(tactic| walk_at "sq") => `(tactic| first
  | assumption
  | exact SqL.of (by assumption)
  | exact SqL.of upd_same
  | exact SqT.of (by assumption)
  | exact SqT.of upd_same)
local macro_rules | `(tactic| walk_at "sml") => `(tactic| (rw [sizeLine_eq]; simp))
local macro_rules | `(tactic| walk_at "at") => `(tactic| first | assumption | rfl)
local macro_rules | `(tactic| walk_at "rd") => `(tactic| repeat walk_at "rd1")
section
variable {w : World} {P : Program} {base : Heap} {K : PySem.W.Frag} {mg : Str → Option Value}
theorem snd_map (bs : List (Int × Int)) (k : Nat) {x : Int × Int} (e : bs[k]? = some x) : (bs.take (k + 1)).map (·.2) = (bs.take k).map (·.2) ++ [x.2] := by
  rw [List.take_add_one, e, List.map_append]
  rfl
def sp_live_cells : Sp := fun vs H Q _ => ∃ (a : Addr) (bs : List (Int × Int)), vs = [.ref a] ∧ LT bV H a bs ∧ bs.length ≤ 1000 ∧ ∀ H', Same H H' → Q (.int (liveF bs)) H'
theorem mk_live_cells {f : Addr} {fd : FuncData} (T : Txt mg) (F : Fun K "live_cells" "live_cells" s_live_cells f fd) (m : mg "live_cells" = some (.ref f)) (b : Binds K fd ["layout"] []) :
    Cal P w K mg base "live_cells" 1 f fd ["layout"] sp_live_cells := by
  refine ⟨F.ok sc_live_cells (fun vs H Q E h => ?_) (fun cdv A outer s H vs Q E hr h => ?_), m, F.kp, b⟩
  · obtain ⟨a, bs, rfl, _⟩ := h
    rfl
  obtain ⟨a, bs, rfl, ⟨ts, ha, ht⟩, hlen, q⟩ := h
  have hl := ht.1
  refine ⟨_, (pss_one (ps_ret (pe_callB (show CallR _ _ (rSum K) from cr_sum rfl) (by rfl) T.sum (by decide +kernel) (pa_cons (show PE _ _ (tLc _ _ _ _ [1, 2]) from pe_lc (own := [("start", 1), ("length", 2)]) (g := gTup K 2 (gCons (gName 1) (gCons (gName 2) gNil))) (tt := tYes) rfl sc_live_cells.nd (pi_list (pv 0)) (blkOk_by (own := [("start", 1), ("length", 2)]) (N := ["layout", "start", "length"]) (sc := defScope s_live_cells) (by decide +kernel)) (fun _ _ _ _ _ => (pg_tup rfl (pgs_cons (pg_name (i := 1) sc_live_cells.nd rfl (Or.inl rfl)) (pgs_cons (pg_name (i := 2) sc_live_cells.nd rfl (Or.inl rfl)) pgs_nil)))) (fun _ _ _ _ _ => pts_nil) (fun _ _ _ _ _ => (pv 2))) pa_nil)))), ?_⟩
  try dsimp only [cxOf, Cx.nox, Cx.wish]
  rw [show start ["layout", "start", "length"] [V.ref a] = [some (V.ref a), none, none] from rfl]
  walk_at "rd"
  refine r_iL2 (SqL.of ha) ?_
  intro D nD
  refine lc_list (K := K) (a := a) (xs := ts.map V.ref) (fun i H' => H' D = some (.lst (((bs.take i).map (·.2)).map V.int)) ∧ Same H H') ⟨upd_same, same_upd nD⟩ (fun i H' _ h => SqL.of (h.2 _ _ ha)) ?_ ?_
  · rintro i x H1 hx ⟨hD, s1⟩
    rw [List.getElem?_map] at hx
    obtain ⟨t, et, rfl⟩ := Option.map_eq_some_iff.mp hx
    obtain ⟨y, eb, htup⟩ := (ht.same s1).2 i t et
    refine r_gtup (SqT.of htup) rfl ?_
    walk_at "rd"
    refine ⟨_, hD, by rw [List.length_map, List.length_map, List.length_take, sizeLine_eq]; omega, ?_, But.upd.new nD s1⟩
    rw [upd_same, snd_map _ _ eb, List.map_append]
    rfl
  · rintro H1 ⟨hD, s1⟩
    rw [List.length_map, ht.1, List.take_length] at hD
    walk_at "rd"
    exact ⟨D, _, rfl, SqL.of hD, q _ s1⟩
def lowF (n d : Int) : Int × Int := (n / ((Nat.gcd n.natAbs d.natAbs : Nat) : Int), d / ((Nat.gcd n.natAbs d.natAbs : Nat) : Int))
def sp_lowest : Sp := fun vs H Q _ => ∃ (n d : Int), vs = [.int n, .int d] ∧ 0 ≤ n ∧ 1 ≤ d ∧ d < 1000000 ∧ ∀ p H', H p = none → Same H H' → H' p = some (.tup (bV (lowF n d))) → Q (.ref p) H'
theorem mk_lowest_terms {f : Addr} {fd : FuncData} (T : Txt mg) (F : Fun K "lowest_terms" "lowest_terms" s_lowest_terms f fd) (m : mg "lowest_terms" = some (.ref f)) (b : Binds K fd ["numerator", "denominator"] []) :
    Cal P w K mg base "lowest_terms" 1 f fd ["numerator", "denominator"] sp_lowest := by
  refine ⟨F.ok sc_lowest_terms (fun vs H Q E h => ?_) (fun cdv A outer s H vs Q E hr h => ?_), m, F.kp, b⟩
  · obtain ⟨n, d, rfl, _⟩ := h
    rfl
  obtain ⟨n, d, rfl, hn, hd, hd2, q⟩ := h
  have g1 : 0 < Nat.gcd n.natAbs d.natAbs := Nat.gcd_pos_of_pos_right _ (by omega)
  have g2 : Nat.gcd n.natAbs d.natAbs ≤ d.natAbs := Nat.gcd_le_right _ (by omega)
  refine ⟨_, (pss_cons (ps_set (i := 2) sc_lowest_terms.nd rfl (Or.inl rfl) (pe_callBfun cr_gcd (by rfl) T.gcd (pa_cons (pv 0) (pa_cons (pv 1) pa_nil)))) (pss_one (ps_ret (pe_tup (pa_cons (pe_op op_fdiv (pv 0) (pv 2)) (pa_cons (pe_op op_fdiv (pv 1) (pv 2)) pa_nil)))))), ?_⟩
  try dsimp only [cxOf, Cx.nox, Cx.wish]
  rw [show start ["numerator", "denominator", "common"] [V.int n, V.int d] = [some (V.int n), some (V.int d), none] from rfl]
  walk_at "rd"
  refine ⟨n, d, rfl, ?_⟩
  walk_at "rd"
  refine ⟨by walk_at "sml", fun p np => ?_⟩
  refine upd_new np fun H1 hp s1 => ?_
  exact q p H1 np s1 hp
end
end Pf

namespace Pf
open PySem L2
local macro_rules | `(tactic| walk_at "rd1") => `(tactic| first
  | with_reducible refine r_seqA ?_
  | with_reducible refine r_seqD ?_
  | with_reducible refine r_seqF ?_
  | with_reducible refine r_seqN ?_
  | with_reducible refine r_asg ?_
  | with_reducible refine r_drop ?_
  | with_reducible refine r_ret ?_
  | with_reducible refine r_ifS ?_
  | ((with_reducible refine r_next ?_); try dsimp only)
  | ((with_reducible refine r_name ?_); try dsimp only [List.set_cons_succ, List.set_cons_zero, wipe])
  | ((with_reducible refine' r_var ?rdh ?_); (case rdh => rfl))
  | with_reducible refine r_c ?_
  | with_reducible refine r_op ?_
  | with_reducible refine r_un ?_
  | with_reducible refine r_I0 ?_
  | ((with_reducible refine r_I ?_ ?_); (· first | decide | exact Or.inl (by decide) | exact Or.inr (by decide) | (show _ ∧ _; constructor <;> decide) | (show (0:Int) < _; omega) | (show CDiv _ _; unfold CDiv; omega) ))
  | with_reducible refine r_U ?_
  | with_reducible refine r_eqI ?_
  | with_reducible refine r_neI ?_
  | with_reducible refine r_eqB ?_
  | with_reducible refine r_neB ?_
  | with_reducible refine r_test ?_
  | with_reducible refine r_B ?_
  | with_reducible refine r_bl ?_
  | with_reducible refine r_bl2 ?_
  | with_reducible refine r_yes ?_
  | with_reducible refine r_wipe (by rfl) ?_
  | with_reducible refine r_rfl ?_
  | ((with_reducible refine' r_eqA ?rdh ?_); (case rdh => rfl))
  | with_reducible refine r_and ?_
  | with_reducible refine r_or ?_
  | with_reducible refine r_not ?_
  | with_reducible refine r_andV ?_
  | with_reducible refine r_orV ?_
  | with_reducible refine r_notV ?_
  | with_reducible refine r_ifE ?_
  | with_reducible refine r_nil ?_
  | with_reducible refine r_cons ?_
  | with_reducible refine r_tup ?_
  | with_reducible refine r_lst ?_
  | with_reducible refine r_CB ?_
  | with_reducible refine r_call ?_
  | with_reducible refine r_bm ?_
  | with_reducible refine r_bm0 ?_
  | with_reducible refine r_int ?_
  | with_reducible refine r_i2 ?_
  | with_reducible refine r_i1 ?_
  | with_reducible refine r_gcons ?_
  | with_reducible refine r_gnil ?_
  | with_reducible refine r_gsub ?_
  | with_reducible refine iteT ?_
  | with_reducible refine iteF ?_
  | with_reducible refine ite_notT ?_
  | with_reducible refine ite_notF ?_
  | with_reducible refine r_isi_ib ?_
  | with_reducible refine r_isi_ii ?_
  | with_reducible refine r_isi_bb ?_
  | with_reducible refine r_isi_nb ?_
  | with_reducible refine r_isi_nt ?_
  | ((with_reducible refine' r_isi_ll ?rdh ?_); (case rdh => first | assumption | exact upd_same))
  | ((with_reducible refine' r_isi_tt ?rdh ?_); (case rdh => first | assumption | exact upd_same))
  | with_reducible refine r_sl ?_
  | with_reducible refine r_noPart ?_
  | with_reducible refine r_part ?_
  | with_reducible refine r_int1 ?_
  | with_reducible refine r_tru ?_
  | with_reducible refine r_ckw ?_
  | with_reducible refine r_lc ?_
  | with_reducible refine r_lc2 ?_
  | with_reducible refine r_forS ?_
  | with_reducible refine r_iR1 ?_
  | with_reducible refine r_iR2 ?_
  | with_reducible refine r_iL ?_
  | ((with_reducible refine' r_lenL ?rdh ?_); (case rdh => walk_at "sq"))
  | ((with_reducible refine' r_ixL ?rdh ?rda ?_); (case rdh => walk_at "sq"); (case rda => walk_at "at"))
  | ((with_reducible refine' r_ixT ?rdh ?rda ?_); (case rdh => walk_at "sq"); (case rda => walk_at "at")))
local macro_rules | `(tactic| walk_at "sq") => `(tactic| first
  | assumption
  | exact SqL.of (by assumption)
  | exact SqL.of upd_same
  | exact SqT.of (by assumption)
  | exact SqT.of upd_same)
local macro_rules | `(tactic| walk_at "sml") => `(tactic| (rw [sizeLine_eq]; simp))
local macro_rules | `(tactic| walk_at "at") => `(tactic| first | assumption | rfl)
local macro_rules | `(tactic| walk_at "rd") => `(tactic| repeat walk_at "rd1")
section
variable {w : World} {P : Program} {base : Heap} {K : PySem.W.Frag} {mg : Str → Option Value}
def sp_measure : Sp := fun vs H Q _ => ∃ (a : Addr) (size : Int) (bs : List (Int × Int)), vs = [.int size, .ref a] ∧ LT bV H a bs ∧ bs.length ≤ 1000 ∧ VL size 0 bs ∧ size ≤ 1000 ∧
  ∀ (p : Addr) (fr : V) (H' : Hp), H p = none → Same H H' → H' p = some (.tup [.int (liveF bs), .int (size - liveF bs), .int (grtF (gapsF size 0 bs)), .int ((gapsF size 0 bs).length : Nat), fr]) →
    ((gapsF size 0 bs = [] ∧ fr = .non) ∨ (gapsF size 0 bs ≠ [] ∧ ∃ t, fr = .ref t ∧ H' t = some (.tup (bV (lowF (size - liveF bs - grtF (gapsF size 0 bs)) (size - liveF bs)))))) → Q (.ref p) H'
theorem mk_measure {f f1 f2 f3 : Addr} {fd fd1 fd2 fd3 : FuncData} (T : Txt mg) (F : Fun K "measure" "measure" s_measure f fd) (m : mg "measure" = some (.ref f)) (b : Binds K fd ["size", "layout"] [])
    (C_gaps : Cal P w K mg base "gaps" 1 f1 fd1 ["size", "layout"] sp_gaps) (C_live_cells : Cal P w K mg base "live_cells" 1 f2 fd2 ["layout"] sp_live_cells)
    (C_lowest_terms : Cal P w K mg base "lowest_terms" 1 f3 fd3 ["numerator", "denominator"] sp_lowest) :
    Cal P w K mg base "measure" 2 f fd ["size", "layout"] sp_measure := by
  refine ⟨F.ok sc_measure (fun vs H Q E h => ?_) (fun cdv A outer s H vs Q E hr h => ?_), m, F.kp, b⟩
  · obtain ⟨a, size, bs, rfl, _⟩ := h
    rfl
  obtain ⟨a, size, bs, rfl, hL, hlen, hv, hz, q⟩ := h
  refine ⟨_, (pss_cons (ps_set (i := 2) sc_measure.nd rfl (Or.inl rfl) (pe_call C_live_cells.ok (hr.mono (by first | decide | omega)) rfl C_live_cells.mg C_live_cells.kp C_live_cells.b .nil pass0 (pa_cons (pv 1) pa_nil))) (pss_cons (ps_set (i := 3) sc_measure.nd rfl (Or.inl rfl) (pe_op op_sub (pv 0) (pv 2))) (pss_cons (ps_set (i := 4) sc_measure.nd rfl (Or.inl rfl) (pe_call C_gaps.ok (hr.mono (by first | decide | omega)) rfl C_gaps.mg C_gaps.kp C_gaps.b .nil pass0 (pa_cons (pv 0) (pa_cons (pv 1) pa_nil)))) (pss_cons (ps_set (i := 5) sc_measure.nd rfl (Or.inl rfl) (pe_callBK (cr_maxD rfl hr) (by rfl) T.max (by decide +kernel) (pa_cons (show PE _ _ (tLc _ _ _ _ [6, 7]) from pe_lc (own := [("start", 6), ("cells", 7)]) (g := gTup K 2 (gCons (gName 6) (gCons (gName 7) gNil))) (tt := tYes) rfl sc_measure.nd (pi_list (pv 4)) (blkOk_by (own := [("start", 6), ("cells", 7)]) (N := ["size", "layout", "live", "free", "found", "greatest", "start", "cells", "fragmentation"]) (sc := defScope s_measure) (by decide +kernel)) (fun _ _ _ _ _ => (pg_tup rfl (pgs_cons (pg_name (i := 6) sc_measure.nd rfl (Or.inl rfl)) (pgs_cons (pg_name (i := 7) sc_measure.nd rfl (Or.inl rfl)) pgs_nil)))) (fun _ _ _ _ _ => pts_nil) (fun _ _ _ _ _ => (pv 7))) pa_nil) (pk_cons pe_int pk_nil))) (pss_cons (ps_set (i := 8) sc_measure.nd rfl (Or.inl rfl) (pe_ifExp (pt_truthN (pv 4)) (pe_call C_lowest_terms.ok (hr.mono (by first | decide | omega)) rfl C_lowest_terms.mg C_lowest_terms.kp C_lowest_terms.b .nil pass0 (pa_cons (pe_op op_sub (pv 3) (pv 5)) (pa_cons (pv 3) pa_nil))) pe_non)) (pss_one (ps_ret (pe_tup (pa_cons (pv 2) (pa_cons (pv 3) (pa_cons (pv 5) (pa_cons (pe_callB (show CallR _ _ (fun xs H Q => ∃ p ys, xs = [V.ref p] ∧ (SqL K H p ys ∨ SqT K H p ys) ∧ Q (.int ys.length) H) from call_len_seq) (by rfl) T.len PySem.boot_len (pa_cons (pv 4) pa_nil)) (pa_cons (pv 8) pa_nil))))))))))))), ?_⟩
  try dsimp only [cxOf, Cx.nox, Cx.wish]
  rw [show start ["size", "layout", "live", "free", "found", "greatest", "start", "cells", "fragmentation"] [V.int size, V.ref a] = [some (V.int size), some (V.ref a), none, none, none, none, none, none, none] from rfl]
  walk_at "rd"
  refine ⟨a, bs, rfl, hL, hlen, fun H1 s1 => ?_⟩
  walk_at "rd"
  refine ⟨a, size, bs, rfl, hL.same s1, hlen, fun G H2 nG s2 hG => ?_⟩
  have hgl := gapsF_len size bs 0
  obtain ⟨ts, hts, hT⟩ := id hG
  walk_at "rd"
  refine r_iL2 (SqL.of hts) ?_
  intro D nD
  refine lc_list (K := K) (a := G) (xs := ts.map V.ref) (fun i H' => H' D = some (.lst ((((gapsF size 0 bs).take i).map (·.2)).map V.int)) ∧ Same H2 H') ⟨upd_same, same_upd nD⟩ (fun i H' _ h => SqL.of (h.2 _ _ hts)) ?_ ?_
  · rintro i x H3 hx ⟨hD, s3⟩
    rw [List.getElem?_map] at hx
    obtain ⟨t, et, rfl⟩ := Option.map_eq_some_iff.mp hx
    obtain ⟨y, eb, htup⟩ := (hT.same s3).2 i t et
    refine r_gtup (SqT.of htup) rfl ?_
    walk_at "rd"
    refine ⟨_, hD, by rw [List.length_map, List.length_map, List.length_take, sizeLine_eq]; omega, ?_, But.upd.new nD s3⟩
    rw [upd_same, snd_map _ _ eb, List.map_append]
    rfl
  · rintro H3 ⟨hD, s3⟩
    rw [List.length_map, hT.1, List.take_length] at hD
    walk_at "rd"
    refine ⟨D, _, 0, rfl, rfl, SqL.of hD, ?_⟩
    walk_at "rd"
    have s13 := (s1.trans s2).trans s3
    have hts3 := s3 _ _ hts
    have e0 : (!(ts.map V.ref).isEmpty) = !decide (gapsF size 0 bs = []) := by
      have hl := hT.1
      cases ts with
      | nil => cases h : gapsF size 0 bs with
        | nil => rfl
        | cons g gs => rw [h] at hl; cases hl
      | cons t ts => cases h : gapsF size 0 bs with
        | nil => rw [h] at hl; cases hl
        | cons g gs => rfl
    have gp := gap_pos size bs 0
    have gs := gap_sum hv
    have gl := grt_le gp
    refine r_truL (SqL.of hts3) ?_
    rw [e0]
    refine r_iteN (fun c => ?_) (fun c => ?_)
    · walk_at "rd"
      have pos : 1 ≤ size - liveF bs := by
        cases h : gapsF size 0 bs with
        | nil => exact absurd h c
        | cons g gs' =>
          have h1 := gp g (by rw [h]; exact List.mem_cons_self)
          have h2 : g.2 ≤ grtF (gapsF size 0 bs) := grt_ge (by rw [h]; exact List.mem_cons_self)
          omega
      have lv := live_nonneg hv
      refine ⟨_, _, rfl, ?_, pos, by omega, fun t H4 nt s4 ht4 => ?_⟩
      · show 0 ≤ size - liveF bs - grtF (gapsF size 0 bs)
        omega
      · walk_at "rd"
        refine r_lenL (SqL.of (s4 _ _ hts3)) ?_
        walk_at "rd"
        refine ⟨by walk_at "sml", fun p np => ?_⟩
        refine upd_new np fun H5 hp s5 => ?_
        rw [List.length_map, hT.1] at hp
        exact q p _ H5 (s13.free (s4.free np)) ((s13.trans s4).trans s5) hp (.inr ⟨c, t, rfl, s5 _ _ ht4⟩)
    · walk_at "rd"
      refine ⟨by walk_at "sml", fun p np => ?_⟩
      refine upd_new np fun H5 hp s5 => ?_
      rw [List.length_map, hT.1] at hp
      exact q p _ H5 (s13.free np) (s13.trans s5) hp (.inl ⟨c, rfl⟩)
end
end Pf

namespace Pf
open PySem L2
local macro_rules | `(tactic| walk_at "rd1") => `(tactic| first
  | with_reducible refine r_seqA ?_
  | with_reducible refine r_seqD ?_
  | with_reducible refine r_seqF ?_
  | with_reducible refine r_seqN ?_
  | with_reducible refine r_asg ?_
  | with_reducible refine r_drop ?_
  | with_reducible refine r_ret ?_
  | with_reducible refine r_ifS ?_
  | ((with_reducible refine r_next ?_); try dsimp only)
  | ((with_reducible refine r_name ?_); try dsimp only [List.set_cons_succ, List.set_cons_zero, wipe])
  | ((with_reducible refine' r_var ?rdh ?_); (case rdh => rfl))
  | with_reducible refine r_c ?_
  | with_reducible refine r_op ?_
  | with_reducible refine r_un ?_
  | with_reducible refine r_I0 ?_
  | ((with_reducible refine r_I ?_ ?_); (· first | decide | exact Or.inl (by decide) | exact Or.inr (by decide) | (show _ ∧ _; constructor <;> decide) | (show (0:Int) < _; omega) | (show CDiv _ _; unfold CDiv; omega) ))
  | with_reducible refine r_U ?_
  | with_reducible refine r_eqI ?_
  | with_reducible refine r_neI ?_
  | with_reducible refine r_eqB ?_
  | with_reducible refine r_neB ?_
  | with_reducible refine r_test ?_
  | with_reducible refine r_B ?_
  | with_reducible refine r_bl ?_
  | with_reducible refine r_bl2 ?_
  | with_reducible refine r_yes ?_
  | with_reducible refine r_wipe (by rfl) ?_
  | with_reducible refine r_rfl ?_
  | ((with_reducible refine' r_eqA ?rdh ?_); (case rdh => rfl))
  | with_reducible refine r_and ?_
  | with_reducible refine r_or ?_
  | with_reducible refine r_not ?_
  | with_reducible refine r_andV ?_
  | with_reducible refine r_orV ?_
  | with_reducible refine r_notV ?_
  | with_reducible refine r_ifE ?_
  | with_reducible refine r_nil ?_
  | with_reducible refine r_cons ?_
  | with_reducible refine r_tup ?_
  | with_reducible refine r_lst ?_
  | with_reducible refine r_CB ?_
  | with_reducible refine r_call ?_
  | with_reducible refine r_bm ?_
  | with_reducible refine r_bm0 ?_
  | with_reducible refine r_int ?_
  | with_reducible refine r_i2 ?_
  | with_reducible refine r_i1 ?_
  | with_reducible refine r_gcons ?_
  | with_reducible refine r_gnil ?_
  | with_reducible refine r_gsub ?_
  | with_reducible refine iteT ?_
  | with_reducible refine iteF ?_
  | with_reducible refine ite_notT ?_
  | with_reducible refine ite_notF ?_
  | with_reducible refine r_isi_ib ?_
  | with_reducible refine r_isi_ii ?_
  | with_reducible refine r_isi_bb ?_
  | with_reducible refine r_isi_nb ?_
  | with_reducible refine r_isi_nt ?_
  | ((with_reducible refine' r_isi_ll ?rdh ?_); (case rdh => first | assumption | exact upd_same))
  | ((with_reducible refine' r_isi_tt ?rdh ?_); (case rdh => first | assumption | exact upd_same))
  | with_reducible refine r_sl ?_
  | with_reducible refine r_noPart ?_
  | with_reducible refine r_part ?_
  | with_reducible refine r_int1 ?_
  | with_reducible refine r_tru ?_
  | with_reducible refine r_ckw ?_
  | with_reducible refine r_lc ?_
  | with_reducible refine r_lc2 ?_
  | with_reducible refine r_forS ?_
  | with_reducible refine r_iR1 ?_
  | with_reducible refine r_iR2 ?_
  | with_reducible refine r_iL ?_
  | ((with_reducible refine' r_lenL ?rdh ?_); (case rdh => walk_at "sq"))
  | ((with_reducible refine' r_ixL ?rdh ?rda ?_); (case rdh => walk_at "sq"); (case rda => walk_at "at"))
  | ((with_reducible refine' r_ixT ?rdh ?rda ?_); (case rdh => walk_at "sq"); (case rda => walk_at "at")))
local macro_rules | `(tactic| walk_at "sq") => `(tactic| first
  | assumption
  | exact SqL.of (by assumption)
  | exact SqL.of upd_same
  | exact SqT.of (by assumption)
  | exact SqT.of upd_same)
local macro_rules | `(tactic| walk_at "sml") => `(tactic| (rw [sizeLine_eq]; simp))
local macro_rules | `(tactic| walk_at "at") => `(tactic| first | assumption | rfl)
local macro_rules | `(tactic| walk_at "rd") => `(tactic| repeat walk_at "rd1")
section
variable {w : World} {P : Program} {base : Heap} {K : PySem.W.Frag} {mg : Str → Option Value}
theorem low_facts {n d : Int} (hn : 0 ≤ n) (hd : 1 ≤ d) : 0 ≤ (lowF n d).1 ∧ (lowF n d).1 ≤ n ∧ 1 ≤ (lowF n d).2 ∧ (lowF n d).2 ≤ d ∧ (lowF n d).1 * d = (lowF n d).2 * n ∧ ∀ k : Int, 2 ≤ k → ¬ ((lowF n d).1 % k = 0 ∧ (lowF n d).2 % k = 0) := by
  obtain ⟨a, rfl⟩ : ∃ a : Nat, n = a := ⟨n.toNat, by omega⟩
  obtain ⟨b, rfl⟩ : ∃ b : Nat, d = b := ⟨d.toNat, by omega⟩
  unfold lowF
  rw [Int.natAbs_natCast, Int.natAbs_natCast]
  have hb : 0 < b := by omega
  have g1 : 0 < Nat.gcd a b := Nat.gcd_pos_of_pos_right _ hb
  obtain ⟨x, hx⟩ := Nat.gcd_dvd_left a b
  obtain ⟨y, hy⟩ := Nat.gcd_dvd_right a b
  have cop : Nat.gcd x y = 1 := by
    have := Nat.gcd_mul_left (Nat.gcd a b) x y
    rw [← hx, ← hy] at this
    exact Nat.eq_of_mul_eq_mul_left g1 (by omega)
  generalize hg : Nat.gcd a b = g at *
  have ea : (a : Int) / (g : Int) = x := by
    rw [hx, Int.natCast_mul]
    exact Int.mul_ediv_cancel_left _ (by omega)
  have eb : (b : Int) / (g : Int) = y := by
    rw [hy, Int.natCast_mul]
    exact Int.mul_ediv_cancel_left _ (by omega)
  simp only [ea, eb]
  have hy1 : 1 ≤ y := by
    rcases Nat.eq_zero_or_pos y with e | e
    · rw [e, Nat.mul_zero] at hy; omega
    · exact e
  have l1 : x ≤ a := by rw [hx]; exact Nat.le_mul_of_pos_left x g1
  have l2 : y ≤ b := by rw [hy]; exact Nat.le_mul_of_pos_left y g1
  refine ⟨by omega, by omega, by omega, by omega, ?_, ?_⟩
  · rw [hx, hy, Int.natCast_mul, Int.natCast_mul, Int.mul_left_comm, Int.mul_left_comm (y : Int), Int.mul_comm (x : Int)]
  · rintro k hk ⟨h1, h2⟩
    obtain ⟨m, rfl⟩ : ∃ m : Nat, k = m := ⟨k.toNat, by omega⟩
    have d1 : m ∣ x := Int.natCast_dvd_natCast.mp (Int.dvd_of_emod_eq_zero h1)
    have d2 : m ∣ y := Int.natCast_dvd_natCast.mp (Int.dvd_of_emod_eq_zero h2)
    have d3 := Nat.dvd_gcd d1 d2
    rw [cop] at d3
    have := Nat.le_of_dvd (by decide) d3
    omega
theorem grt_fold {gs : List (Int × Int)} (h : ∀ g ∈ gs, 1 ≤ g.2) : (gs.map (·.2)).foldl max 0 = grtF gs := by
  unfold grtF
  cases gs with
  | nil => rfl
  | cons g r =>
    have := h g List.mem_cons_self
    show List.foldl max (max 0 g.2) _ = _
    rw [Int.max_eq_right (by omega)]
    rfl
theorem lay_VL {size : Int} : ∀ {bs : List (Int × Int)} {e : Int}, VL size e bs → lay size e bs = true
  | [], e, h => decide_eq_true h
  | (s, l) :: r, e, h => by
    have h1 := h.1
    have h2 := h.2.1
    rw [lay, if_neg (by omega)]
    exact lay_VL h.2.2
def sp_law (K : PySem.W.Frag) : Sp := fun vs H Q _ => ∃ (a : Addr) (ns : List Int), vs = [.ref a] ∧ SqL K H a (ns.map V.int) ∧ ns.length ≤ 63 ∧ ∀ H', Q (.bl true) H'
theorem mk_law {f f1 f2 f3 f4 f5 f6 f7 f8 f9 f10 : Addr} {fd fd1 fd2 fd3 fd4 fd5 fd6 fd7 fd8 fd9 fd10 : FuncData} (T : Txt mg) (F : Fun K "law" "law" s_law f fd)
    (C_law_digits : Cal P w K mg base "_law_digits" 2 f1 fd1 ["script", "first", "last"] (sp_digits K))
    (C_law_draw : Cal P w K mg base "_law_draw" 1 f2 fd2 ["box", "many"] sp_draw)
    (C_law_blocks : Cal P w K mg base "_law_blocks" 2 f3 fd3 ["box", "size", "most"] sp_blocks)
    (C_law_cells : Cal P w K mg base "_law_cells" 1 f4 fd4 ["size", "blocks"] sp_cells)
    (C_law_runs : Cal P w K mg base "_law_runs" 1 f5 fd5 ["cells"] (sp_runs K))
    (C_law_is_blocks : Cal P w K mg base "_law_is_blocks" 1 f6 fd6 ["xs"] sp_is_blocks)
    (C_is_layout : Cal P w K mg base "is_layout" 1 f7 fd7 ["size", "layout"] sp_is_layout)
    (C_gaps : Cal P w K mg base "gaps" 1 f8 fd8 ["size", "layout"] sp_gaps)
    (C_live_cells : Cal P w K mg base "live_cells" 1 f9 fd9 ["layout"] sp_live_cells)
    (C_measure : Cal P w K mg base "measure" 2 f10 fd10 ["size", "layout"] sp_measure) : FnOk P w K mg base CX0 4 f fd ["script"] (sp_law K) := by
  refine F.ok sc_law (fun vs H Q E h => ?_) (fun cdv A outer s H vs Q E hr h => ?_)
  · obtain ⟨a, ns, rfl, _⟩ := h
    rfl
  rcases h with ⟨a, ns, rfl, hS, h63, q⟩
  refine ⟨_, (pss_cons (ps_set (i := 1) sc_law.nd rfl (Or.inl rfl) (pe_lst (pa_cons (pe_call C_law_digits.ok (hr.mono (by first | decide | omega)) rfl C_law_digits.mg C_law_digits.kp C_law_digits.b .nil pass0 (pa_cons (pv 0) (pa_cons pe_int (pa_cons pe_int pa_nil)))) (pa_cons pe_int pa_nil)))) (pss_cons (ps_set (i := 2) sc_law.nd rfl (Or.inl rfl) (pe_op op_add pe_int (pe_call C_law_draw.ok (hr.mono (by first | decide | omega)) rfl C_law_draw.mg C_law_draw.kp C_law_draw.b .nil pass0 (pa_cons (pv 1) (pa_cons pe_int pa_nil))))) (pss_cons (ps_set (i := 3) sc_law.nd rfl (Or.inl rfl) (pe_call C_law_blocks.ok (hr.mono (by first | decide | omega)) rfl C_law_blocks.mg C_law_blocks.kp C_law_blocks.b .nil pass0 (pa_cons (pv 1) (pa_cons (pv 2) (pa_cons pe_int pa_nil))))) (pss_cons (show PS _ _ (tAsg (tLc _ _ _ _ [5]) _) from ps_setLc (i := 4) (own := [("block", 5)]) (g := gName 5) (tt := tYes) rfl sc_law.nd rfl rfl (sw_true rfl rfl rfl (by decide +kernel)) (pi_list (pv 3)) (blkOk_by (own := [("block", 5)]) (N := ["script", "box", "size", "layout", "kept", "block", "runs", "actual", "free", "run", "largest", "told", "k"]) (sc := defScope s_law) (by decide +kernel)) (fun _ _ _ _ _ => (pg_name (i := 5) sc_law.nd rfl (Or.inl rfl))) (fun _ _ _ _ _ => pts_nil) (fun _ _ _ _ _ => (pv 5))) (pss_cons (ps_set (i := 6) sc_law.nd rfl (Or.inl rfl) (pe_call C_law_runs.ok (hr.mono (by first | decide | omega)) rfl C_law_runs.mg C_law_runs.kp C_law_runs.b .nil pass0 (pa_cons (pe_call C_law_cells.ok (hr.mono (by first | decide | omega)) rfl C_law_cells.mg C_law_cells.kp C_law_cells.b .nil pass0 (pa_cons (pv 2) (pa_cons (pv 3) pa_nil))) pa_nil))) (pss_cons (ps_set (i := 7) sc_law.nd rfl (Or.inl rfl) (pe_call C_gaps.ok (hr.mono (by first | decide | omega)) rfl C_gaps.mg C_gaps.kp C_gaps.b .nil pass0 (pa_cons (pv 2) (pa_cons (pv 3) pa_nil)))) (pss_cons (ps_if (PW.pt (pw_or (pt_not (pt_val (pe_call C_law_is_blocks.ok (hr.mono (by first | decide | omega)) rfl C_law_is_blocks.mg C_law_is_blocks.kp C_law_is_blocks.b .nil pass0 (pa_cons (pv 7) pa_nil)))) (pw_or (pt_cmpR (show OpR _ _ (rNeD K) from op_neD hr.units) (pv 7) (pv 6) (nomark _)) (pw_or (pt_cmpR (show OpR _ _ (rNeD K) from op_neD hr.units) (pv 3) (pv 4) (nomark _)) (pw_or1 (pt_cmpR op_isnot_bl (pe_call C_is_layout.ok (hr.mono (by first | decide | omega)) rfl C_is_layout.mg C_is_layout.kp C_is_layout.b .nil pass0 (pa_cons (pv 2) (pa_cons (pv 3) pa_nil))) pe_bl (nomark _)))))))
      (pss_one (ps_ret pe_bl))
      pss_nil) (pss_cons (ps_set (i := 8) sc_law.nd rfl (Or.inl rfl) (pe_callB (show CallR _ _ (rSum K) from cr_sum rfl) (by rfl) T.sum (by decide +kernel) (pa_cons (show PE _ _ (tLc _ _ _ _ [9]) from pe_lc (own := [("run", 9)]) (g := gName 9) (tt := tYes) rfl sc_law.nd (pi_list (pv 6)) (blkOk_by (own := [("run", 9)]) (N := ["script", "box", "size", "layout", "kept", "block", "runs", "actual", "free", "run", "largest", "told", "k"]) (sc := defScope s_law) (by decide +kernel)) (fun _ _ _ _ _ => (pg_name (i := 9) sc_law.nd rfl (Or.inl rfl))) (fun _ _ _ _ _ => pts_nil) (fun _ _ _ _ _ => (pe_ix (show IxR _ (rIxT K) from ix_tup) (pv 9) pe_int (fun _ _ => rfl)))) pa_nil))) (pss_cons (ps_set (i := 10) sc_law.nd rfl (Or.inl rfl) pe_int) (pss_cons (ps_for PassesOwn.never rfl (pi_list (pv 6)) (pg_name (i := 9) sc_law.nd rfl (Or.inl rfl))
      (pss_one (ps_set (i := 10) sc_law.nd rfl (Or.inl rfl) (pe_callB (call_max2 rfl) (by rfl) T.max (by decide +kernel) (pa_cons (pv 10) (pa_cons (pe_ix (show IxR _ (rIxT K) from ix_tup) (pv 9) pe_int (fun _ _ => rfl)) pa_nil)))))) (pss_cons (ps_set (i := 11) sc_law.nd rfl (Or.inl rfl) (pe_call C_measure.ok (hr.mono (by first | decide | omega)) rfl C_measure.mg C_measure.kp C_measure.b .nil pass0 (pa_cons (pv 2) (pa_cons (pv 3) pa_nil)))) (pss_cons (ps_if (PW.pt (pw_or (pt_not (pt_val (pe_callB (show CallR _ _ (rIsi K) from call_isi) (by rfl) T.isinstance (by decide +kernel) (pa_cons (pv 11) (pa_cons (pe_bltn (v := .ty "tuple") (u := .type "tuple") rfl T.tuple (by decide +kernel) rfl) pa_nil))))) (pw_or (pt_cmpR (show OpR _ _ (rNeD K) from op_neD hr.units) (pe_slice sl_tup (pv 11) po_none (po_some pe_int)) (pe_tup (pa_cons (pe_op op_sub (pv 2) (pv 8)) (pa_cons (pv 8) (pa_cons (pv 10) (pa_cons (pe_callB (show CallR _ _ (fun xs H Q => ∃ p ys, xs = [V.ref p] ∧ (SqL K H p ys ∨ SqT K H p ys) ∧ Q (.int ys.length) H) from call_len_seq) (by rfl) T.len PySem.boot_len (pa_cons (pv 6) pa_nil)) pa_nil))))) (nomark _)) (pw_or1 (pt_cmpR op_ne (pe_call C_live_cells.ok (hr.mono (by first | decide | omega)) rfl C_live_cells.mg C_live_cells.kp C_live_cells.b .nil pass0 (pa_cons (pv 3) pa_nil)) (pe_op op_sub (pv 2) (pv 8)) (nomark _))))))
      (pss_one (ps_ret pe_bl))
      pss_nil) (pss_cons (ps_if (pt_cmpR op_eq (pv 8) pe_int (nomark _))
      (pss_one (ps_ret (pe_cmpR op_isN (pe_ix (show IxR _ (rIxT K) from ix_tup) (pv 11) pe_int (fun _ _ => rfl)) pe_non (nomark _))))
      pss_nil) (pss_cons (ps_if (PW.pt (pw_or (pt_not (pt_val (pe_callB (show CallR _ _ (rIsi K) from call_isi) (by rfl) T.isinstance (by decide +kernel) (pa_cons (pe_ix (show IxR _ (rIxT K) from ix_tup) (pv 11) pe_int (fun _ _ => rfl)) (pa_cons (pe_bltn (v := .ty "tuple") (u := .type "tuple") rfl T.tuple (by decide +kernel) rfl) pa_nil))))) (pw_or (pt_cmpR op_ne (pe_callB (show CallR _ _ (fun xs H Q => ∃ p ys, xs = [V.ref p] ∧ (SqL K H p ys ∨ SqT K H p ys) ∧ Q (.int ys.length) H) from call_len_seq) (by rfl) T.len PySem.boot_len (pa_cons (pe_ix (show IxR _ (rIxT K) from ix_tup) (pv 11) pe_int (fun _ _ => rfl)) pa_nil)) pe_int (nomark _)) (pw_or1 (pt_cmpR op_lt (pe_ix (show IxR _ (rIxT K) from ix_tup) (pe_ix (show IxR _ (rIxT K) from ix_tup) (pv 11) pe_int (fun _ _ => rfl)) pe_int (fun _ _ => rfl)) pe_int (nomark _))))))
      (pss_one (ps_ret pe_bl))
      pss_nil) (pss_cons (ps_if (pt_cmpR op_ne (pe_op op_mul (pe_ix (show IxR _ (rIxT K) from ix_tup) (pe_ix (show IxR _ (rIxT K) from ix_tup) (pv 11) pe_int (fun _ _ => rfl)) pe_int (fun _ _ => rfl)) (pv 8)) (pe_op op_mul (pe_ix (show IxR _ (rIxT K) from ix_tup) (pe_ix (show IxR _ (rIxT K) from ix_tup) (pv 11) pe_int (fun _ _ => rfl)) pe_int (fun _ _ => rfl)) (pe_op op_sub (pv 8) (pv 10))) (nomark _))
      (pss_one (ps_ret pe_bl))
      pss_nil) (pss_cons (ps_for PassesOwn.never rfl (pi_range2 rfl T.range (pa_cons pe_int (pa_cons (pe_op op_add (pv 8) pe_int) pa_nil))) (pg_name (i := 12) sc_law.nd rfl (Or.inl rfl))
      (pss_one (ps_if (PW.pt (pw_and (pt_cmpR op_eq (pe_op op_mod (pe_callTy call_int1 (by rfl) T.int (by decide +kernel) (pa_cons (pe_ix (show IxR _ (rIxT K) from ix_tup) (pe_ix (show IxR _ (rIxT K) from ix_tup) (pv 11) pe_int (fun _ _ => rfl)) pe_int (fun _ _ => rfl)) pa_nil)) (pv 12)) pe_int (nomark _)) (pw_and1 (pt_cmpR op_eq (pe_op op_mod (pe_callTy call_int1 (by rfl) T.int (by decide +kernel) (pa_cons (pe_ix (show IxR _ (rIxT K) from ix_tup) (pe_ix (show IxR _ (rIxT K) from ix_tup) (pv 11) pe_int (fun _ _ => rfl)) pe_int (fun _ _ => rfl)) pa_nil)) (pv 12)) pe_int (nomark _)))))
      (pss_one (ps_ret pe_bl))
      pss_nil))) (pss_one (ps_ret pe_bl)))))))))))))))))), ?_⟩
  try dsimp only [cxOf, Cx.nox, Cx.wish]
  rw [show start ["script", "box", "size", "layout", "kept", "block", "runs", "actual", "free", "run", "largest", "told", "k"] [V.ref a] = [some (V.ref a), none, none, none, none, none, none, none, none, none, none, none, none] from rfl]
  walk_at "rd"
  refine ⟨a, ns, 0, 63, rfl, hS, by decide, by decide, fun d ds H1 nd s1 hd hdl => ?_⟩
  walk_at "rd"
  refine ⟨by walk_at "sml", fun b nb => ?_⟩
  refine upd_new nb fun H2 hb s2 => ?_
  have ndb : d ≠ b := ne_of_none hd nb
  have B2 : Bx H2 b d := ⟨ds, 0, hb, s2 _ _ hd, ndb⟩
  walk_at "rd"
  refine ⟨b, d, 20, rfl, by decide, B2, fun r1 H3 r10 r11 B3 u3 => ?_⟩
  walk_at "rd"
  refine ⟨b, d, 1 + r1, 8, rfl, by omega, by decide, B3, fun L bs H4 nL B4 u4 hL hv hlen => ?_⟩
  obtain ⟨ts, hts, hT⟩ := id hL
  have hl := hT.1
  walk_at "rd"
  refine r_iL2 (SqL.of hts) ?_
  intro D nD
  refine lc_list (K := K) (a := L) (xs := ts.map V.ref) (fun i H' => H' D = some (.lst ((ts.take i).map V.ref)) ∧ Same H4 H') ⟨upd_same, same_upd nD⟩ (fun i H' _ h => SqL.of (h.2 _ _ hts)) ?_ ?_
  · rintro i x H5 hx ⟨hD, s5⟩
    walk_at "rd"
    refine ⟨_, hD, by rw [List.length_map, List.length_take, sizeLine_eq]; omega, ?_, But.upd.new nD s5⟩
    rw [List.getElem?_map] at hx
    obtain ⟨t, et, rfl⟩ := Option.map_eq_some_iff.mp hx
    rw [upd_same, List.take_add_one, et, List.map_append]
    rfl
  rintro H5 ⟨hD, s5⟩
  rw [List.length_map, List.take_length] at hD
  have hL5 := hL.same s5
  have hK5 : LT bV H5 D bs := ⟨ts, hD, hT.same s5⟩
  walk_at "rd"
  obtain ⟨n, hn⟩ : ∃ n : Nat, 1 + r1 = n := ⟨(1 + r1).toNat, by omega⟩
  rw [hn] at hv
  refine ⟨L, n, bs, by rw [hn], by omega, hL5, hv, by omega, fun C cs H6 nC s6 hC hcs => ?_⟩
  walk_at "rd"
  have hcl : cs.length = n := by have := hcs.1; omega
  refine ⟨C, cs, rfl, SqL.of hC, by omega, fun R H7 nR s7 hR => ?_⟩
  have runsE : runsTo (fun i => cs.getD i 0) cs.length = gapsF n 0 bs := by
    rw [hcl]
    have := runs_gaps (c := fun i => cs.getD i 0) (n := n) (bs := bs) (e := 0) (G := []) hv (fun i _ hi => by
      have e := hcs.2 i (by omega)
      show cs.getD i 0 = 0 ↔ _
      rw [List.getD_eq_getElem?_getD]
      rw [e]
      exact cellOf_zero (Int.le_refl 0)) rfl (.inl rfl)
    simpa using this
  rw [runsE] at hR
  walk_at "rd"
  have s57 := s6.trans s7
  refine ⟨L, 1 + r1, bs, rfl, hL5.same s57, by omega, fun G H8 nG s8 hG => ?_⟩
  rw [hn] at hG
  have s58 := s57.trans s8
  have hR8 := hR.same s8
  refine r_seq ?_
  walk_at "rd"
  refine ⟨G, _, rfl, hG, ?_⟩
  walk_at "rd"
  refine r_neE hG.is hR8.is (by decide) ?_
  walk_at "rd"
  refine r_iteN (fun c => absurd rfl c) (fun _ => ?_)
  walk_at "rd"
  refine r_neE (hL5.same s58).is (hK5.same s58).is (by decide) ?_
  walk_at "rd"
  refine r_iteN (fun c => absurd rfl c) (fun _ => ?_)
  walk_at "rd"
  refine ⟨L, 1 + r1, bs, rfl, hL5.same s58, ?_⟩
  rw [hn, lay_VL hv]
  walk_at "rd"
  refine r_iteN (fun c => absurd rfl c) (fun _ => ?_)
  walk_at "rd"
  -- free = sum of the runs
  obtain ⟨rs, hrs, hRT⟩ := id hR8
  have hrl := hRT.1
  have hgl := gapsF_len n bs 0
  refine r_iL2 (SqL.of hrs) ?_
  intro E nE
  refine lc_list (K := K) (a := R) (xs := rs.map V.ref) (fun i H' => H' E = some (.lst ((((gapsF n 0 bs).take i).map (·.2)).map V.int)) ∧ Same H8 H') ⟨upd_same, same_upd nE⟩ (fun i H' _ h => SqL.of (h.2 _ _ hrs)) ?_ ?_
  · rintro i x H9 hx ⟨hE, s9⟩
    rw [List.getElem?_map] at hx
    obtain ⟨t, et, rfl⟩ := Option.map_eq_some_iff.mp hx
    obtain ⟨y, eb, htup⟩ := (hRT.same s9).2 i t et
    walk_at "rd"
    refine ⟨_, hE, by rw [List.length_map, List.length_map, List.length_take, sizeLine_eq]; omega, ?_, But.upd.new nE s9⟩
    rw [upd_same, snd_map _ _ eb, List.map_append]
    rfl
  rintro H9 ⟨hE, s9⟩
  rw [List.length_map, hRT.1, List.take_length] at hE
  walk_at "rd"
  refine ⟨E, _, rfl, SqL.of hE, ?_⟩
  walk_at "rd"
  have hrs9 := s9 _ _ hrs
  have hT9 := hRT.same s9
  refine r_iL2 (SqL.of hrs9) ?_
  have gp := gap_pos n bs 0
  have gs := gap_sum hv
  have gl := grt_le gp
  have gn := live_nonneg hv
  have eF : (List.map (fun x => x.snd) (gapsF n 0 bs)).sum = n - liveF bs := by
    have : gapSum (gapsF n 0 bs) = n - liveF bs := by omega
    exact this
  rw [eF]
  refine for_list (K := K) (a := R) (xs := rs.map V.ref) (fun i σ H' => ∃ x9 : Option V, σ = [some (.ref a), some (.ref b), some (.int n), some (.ref L), some (.ref D), none, some (.ref R), some (.ref G), some (.int (n - liveF bs)), x9, some (.int ((((gapsF n 0 bs).take i).map (·.2)).foldl max 0)), none, none] ∧ H' = H9)
    ⟨_, rfl, rfl⟩ (fun i σ H' _ ⟨_, _, e⟩ => e ▸ SqL.of hrs9) ?_ ?_
  · rintro i x σ H' hx ⟨x9, rfl, rfl⟩
    rw [List.getElem?_map] at hx
    obtain ⟨t, et, rfl⟩ := Option.map_eq_some_iff.mp hx
    obtain ⟨y, eb, htup⟩ := hT9.2 i t et
    walk_at "rd"
    have e1 : (if y.snd > List.foldl max 0 ((List.take i (gapsF n 0 bs)).map (fun x => x.snd)) then y.snd else List.foldl max 0 ((List.take i (gapsF n 0 bs)).map (fun x => x.snd))) = List.foldl max 0 ((List.take (i + 1) (gapsF n 0 bs)).map (fun x => x.snd)) := by
      rw [snd_map _ _ eb, List.foldl_append]
      show _ = max _ y.2
      split <;> omega
    rw [e1]
    exact ⟨_, rfl, rfl⟩
  rintro σ H' ⟨x9, rfl, rfl⟩
  rw [List.length_map, hRT.1, List.take_length, grt_fold gp]
  walk_at "rd"
  have s9' := s58.trans s9
  refine ⟨L, n, bs, rfl, hL5.same s9', by omega, hv, by omega, fun P fr H10 nP s10 hP hfr => ?_⟩
  refine r_seq ?_
  walk_at "rd"
  refine r_slT (SqT.of hP) (by show ¬ (HT.sIx 5 0 none = 0 ∧ HT.sIx 5 5 (some 4) = 5); decide) fun m1 nm1 => ?_
  refine upd_new nm1 fun H11 hm1 s11 => ?_
  have hrs11 := s11 _ _ (s10 _ _ hrs9)
  walk_at "rd"
  refine ⟨by walk_at "sml", fun m2 nm2 => ?_⟩
  refine upd_new nm2 fun H12 hm2 s12 => ?_
  have hP12 := s12 _ _ (s11 _ _ hP)
  have hm1' : H12 m1 = some (.tup [.int (liveF bs), .int (n - liveF bs), .int (grtF (gapsF n 0 bs)), .int ((gapsF n 0 bs).length : Nat)]) := s12 _ _ hm1
  have e3 : (n : Int) - (n - liveF bs) = liveF bs := by omega
  rw [e3, List.length_map, hRT.1] at hm2
  refine r_neSame (d := .tuple [.int (liveF bs), .int (n - liveF bs), .int (grtF (gapsF n 0 bs)), .int ((gapsF n 0 bs).length : Nat)])
    (.tup (SqT.of hm1') (.cons (.int _) (.cons (.int _) (.cons (.int _) (.cons (.int _) .nil))))) (.tup (SqT.of hm2) (.cons (.int _) (.cons (.int _) (.cons (.int _) (.cons (.int _) .nil))))) rfl ?_
  walk_at "rd"
  have s5' := ((s9'.trans s10).trans s11).trans s12
  refine ⟨L, bs, rfl, hL5.same s5', by omega, fun H13 s13 => ?_⟩
  walk_at "rd"
  refine r_iteN (fun c => ?_) (fun _ => ?_)
  · exact absurd e3.symm c
  walk_at "rd"
  refine r_seq ?_
  have hP13 := s13 _ _ hP12
  walk_at "rd"
  refine r_ite (fun c0 => ?_) (fun c0 => ?_)
  · have gnil : gapsF n 0 bs = [] := by
      cases h : gapsF n 0 bs with
      | nil => rfl
      | cons g gs' =>
        have h1 := gp g (by rw [h]; exact List.mem_cons_self)
        have h2 : g.2 ≤ grtF (gapsF n 0 bs) := grt_ge (by rw [h]; exact List.mem_cons_self)
        omega
    rcases hfr with ⟨_, rfl⟩ | ⟨h, _⟩
    · walk_at "rd"
      refine ⟨rfl, ?_⟩
      exact q _
    · exact absurd gnil h
  · walk_at "rd"
    have gne : gapsF n 0 bs ≠ [] := by
      intro h
      rw [h] at gs
      have : gapSum [] = 0 := rfl
      omega
    rcases hfr with ⟨h, _⟩ | ⟨_, t, rfl, ht⟩
    · exact absurd h gne
    have ht13 := s13 _ _ (s12 _ _ (s11 _ _ ht))
    obtain ⟨l1, l2, l3, l4, l5, l6⟩ := low_facts (n := n - liveF bs - grtF (gapsF n 0 bs)) (d := n - liveF bs) (by omega) (by omega)
    generalize lowF (n - liveF bs - grtF (gapsF n 0 bs)) (n - liveF bs) = AB at *
    refine r_seq ?_
    walk_at "rd"
    refine r_lenT (SqT.of ht13) ?_
    walk_at "rd"
    refine r_iteN (fun c => absurd rfl c) (fun _ => ?_)
    walk_at "rd"
    refine r_ite (fun c => absurd c (by omega)) (fun _ => ?_)
    walk_at "rd"
    refine r_seq ?_
    walk_at "rd"
    refine r_I (.inl ⟨by omega, by omega⟩) ?_
    walk_at "rd"
    refine r_I (.inl ⟨by omega, by omega⟩) ?_
    walk_at "rd"
    refine r_iteN (fun c => absurd l5 c) (fun _ => ?_)
    walk_at "rd"
    refine ⟨by omega, ?_⟩
    refine for_range (lo := 2) (n := ((n : Int) - liveF bs + 1 - 2).toNat) (fun i σ H' => ∃ x12 x13 : Option V, σ = [some (.ref a), some (.ref b), some (.int n), some (.ref L), some (.ref D), none, some (.ref R), some (.ref G), some (.int (n - liveF bs)), x12, some (.int (grtF (gapsF n 0 bs))), some (.ref P), x13] ∧ H' = H13)
      ⟨_, _, rfl, rfl⟩ ?_ ?_
    · rintro i σ H' hi ⟨x12, x13, rfl, rfl⟩
      walk_at "rd"
      refine r_ite (fun c1 => ?_) (fun c1 => ?_)
      · walk_at "rd"
        refine r_ite (fun c2 => absurd ⟨c1, c2⟩ (l6 _ (by omega))) (fun c2 => ?_)
        walk_at "rd"
        exact ⟨_, _, rfl, rfl⟩
      · walk_at "rd"
        exact ⟨_, _, rfl, rfl⟩
    · rintro σ H' ⟨x12, x13, rfl, rfl⟩
      walk_at "rd"
      exact q _
end
theorem all_mk {l : PySem.W.OpenLaw} {w : World} {K : PySem.W.Frag} {h : Heap} {mg : Str → Option Value} {fa f1 f2 f3 f4 f5 f6 f7 f8 f9 f10 f11 f12 f13 : Addr} (X : K.In h) (G : h.Ns mainGlobals mg) (hfa : mg "law" = some (.ref fa))
    {od1 an1 od2 an2 od3 an3 od4 an4 od5 an5 od6 an6 od7 an7 od8 an8 od9 an9 od10 an10 od11 an11 od12 an12 od13 an13 : Option Addr} {sl1 sl2 sl3 sl4 sl5 sl6 sl7 sl8 sl9 sl10 sl11 sl12 sl13 : Array (Option Value)} {oc1 kV1 dc1 pm1 ct1 cd1 oc2 kV2 dc2 pm2 ct2 cd2 oc3 kV3 dc3 pm3 ct3 cd3 oc4 kV4 dc4 pm4 ct4 cd4 oc5 kV5 dc5 pm5 ct5 cd5 oc6 kV6 dc6 pm6 ct6 cd6 oc7 kV7 dc7 pm7 ct7 cd7 oc8 kV8 dc8 pm8 ct8 cd8 oc9 kV9 dc9 pm9 ct9 cd9 oc10 kV10 dc10 pm10 ct10 cd10 oc11 kV11 dc11 pm11 ct11 cd11 oc12 kV12 dc12 pm12 ct12 cd12 oc13 kV13 dc13 pm13 ct13 cd13 : Value}
    (a1 : PySem.W.nsIn K mainGlobals "_law_cell" = some (some (.ref f1))) (l1 : K.lookup f1 = some ⟨oc1, od1, .func (PySem.W.fnOf "_law_cell" "_law_cell" (defArgs s_law_cell) (defBody s_law_cell) (defScope s_law_cell) .none kV1 dc1 pm1 an1 cd1 ct1), sl1⟩) (c1 : PySem.W.codeIn K cd1 "_law_cell" = true) (k1 : PySem.W.keepIn K (.ref f1) = true)
    (a2 : PySem.W.nsIn K mainGlobals "_law_digits" = some (some (.ref f2))) (l2 : K.lookup f2 = some ⟨oc2, od2, .func (PySem.W.fnOf "_law_digits" "_law_digits" (defArgs s_law_digits) (defBody s_law_digits) (defScope s_law_digits) .none kV2 dc2 pm2 an2 cd2 ct2), sl2⟩) (c2 : PySem.W.codeIn K cd2 "_law_digits" = true) (k2 : PySem.W.keepIn K (.ref f2) = true)
    (a3 : PySem.W.nsIn K mainGlobals "_law_draw" = some (some (.ref f3))) (l3 : K.lookup f3 = some ⟨oc3, od3, .func (PySem.W.fnOf "_law_draw" "_law_draw" (defArgs s_law_draw) (defBody s_law_draw) (defScope s_law_draw) .none kV3 dc3 pm3 an3 cd3 ct3), sl3⟩) (c3 : PySem.W.codeIn K cd3 "_law_draw" = true) (k3 : PySem.W.keepIn K (.ref f3) = true)
    (a4 : PySem.W.nsIn K mainGlobals "_law_blocks" = some (some (.ref f4))) (l4 : K.lookup f4 = some ⟨oc4, od4, .func (PySem.W.fnOf "_law_blocks" "_law_blocks" (defArgs s_law_blocks) (defBody s_law_blocks) (defScope s_law_blocks) .none kV4 dc4 pm4 an4 cd4 ct4), sl4⟩) (c4 : PySem.W.codeIn K cd4 "_law_blocks" = true) (k4 : PySem.W.keepIn K (.ref f4) = true)
    (a5 : PySem.W.nsIn K mainGlobals "_law_cells" = some (some (.ref f5))) (l5 : K.lookup f5 = some ⟨oc5, od5, .func (PySem.W.fnOf "_law_cells" "_law_cells" (defArgs s_law_cells) (defBody s_law_cells) (defScope s_law_cells) .none kV5 dc5 pm5 an5 cd5 ct5), sl5⟩) (c5 : PySem.W.codeIn K cd5 "_law_cells" = true) (k5 : PySem.W.keepIn K (.ref f5) = true)
    (a6 : PySem.W.nsIn K mainGlobals "_law_runs" = some (some (.ref f6))) (l6 : K.lookup f6 = some ⟨oc6, od6, .func (PySem.W.fnOf "_law_runs" "_law_runs" (defArgs s_law_runs) (defBody s_law_runs) (defScope s_law_runs) .none kV6 dc6 pm6 an6 cd6 ct6), sl6⟩) (c6 : PySem.W.codeIn K cd6 "_law_runs" = true) (k6 : PySem.W.keepIn K (.ref f6) = true)
    (a7 : PySem.W.nsIn K mainGlobals "_law_is_blocks" = some (some (.ref f7))) (l7 : K.lookup f7 = some ⟨oc7, od7, .func (PySem.W.fnOf "_law_is_blocks" "_law_is_blocks" (defArgs s_law_is_blocks) (defBody s_law_is_blocks) (defScope s_law_is_blocks) .none kV7 dc7 pm7 an7 cd7 ct7), sl7⟩) (c7 : PySem.W.codeIn K cd7 "_law_is_blocks" = true) (k7 : PySem.W.keepIn K (.ref f7) = true)
    (a8 : PySem.W.nsIn K mainGlobals "is_layout" = some (some (.ref f8))) (l8 : K.lookup f8 = some ⟨oc8, od8, .func (PySem.W.fnOf "is_layout" "is_layout" (defArgs s_is_layout) (defBody s_is_layout) (defScope s_is_layout) .none kV8 dc8 pm8 an8 cd8 ct8), sl8⟩) (c8 : PySem.W.codeIn K cd8 "is_layout" = true) (k8 : PySem.W.keepIn K (.ref f8) = true)
    (a9 : PySem.W.nsIn K mainGlobals "gaps" = some (some (.ref f9))) (l9 : K.lookup f9 = some ⟨oc9, od9, .func (PySem.W.fnOf "gaps" "gaps" (defArgs s_gaps) (defBody s_gaps) (defScope s_gaps) .none kV9 dc9 pm9 an9 cd9 ct9), sl9⟩) (c9 : PySem.W.codeIn K cd9 "gaps" = true) (k9 : PySem.W.keepIn K (.ref f9) = true)
    (a10 : PySem.W.nsIn K mainGlobals "live_cells" = some (some (.ref f10))) (l10 : K.lookup f10 = some ⟨oc10, od10, .func (PySem.W.fnOf "live_cells" "live_cells" (defArgs s_live_cells) (defBody s_live_cells) (defScope s_live_cells) .none kV10 dc10 pm10 an10 cd10 ct10), sl10⟩) (c10 : PySem.W.codeIn K cd10 "live_cells" = true) (k10 : PySem.W.keepIn K (.ref f10) = true)
    (a11 : PySem.W.nsIn K mainGlobals "lowest_terms" = some (some (.ref f11))) (l11 : K.lookup f11 = some ⟨oc11, od11, .func (PySem.W.fnOf "lowest_terms" "lowest_terms" (defArgs s_lowest_terms) (defBody s_lowest_terms) (defScope s_lowest_terms) .none kV11 dc11 pm11 an11 cd11 ct11), sl11⟩) (c11 : PySem.W.codeIn K cd11 "lowest_terms" = true) (k11 : PySem.W.keepIn K (.ref f11) = true)
    (a12 : PySem.W.nsIn K mainGlobals "measure" = some (some (.ref f12))) (l12 : K.lookup f12 = some ⟨oc12, od12, .func (PySem.W.fnOf "measure" "measure" (defArgs s_measure) (defBody s_measure) (defScope s_measure) .none kV12 dc12 pm12 an12 cd12 ct12), sl12⟩) (c12 : PySem.W.codeIn K cd12 "measure" = true) (k12 : PySem.W.keepIn K (.ref f12) = true)
    (a13 : PySem.W.nsIn K mainGlobals "law" = some (some (.ref f13))) (l13 : K.lookup f13 = some ⟨oc13, od13, .func (PySem.W.fnOf "law" "law" (defArgs s_law) (defBody s_law) (defScope s_law) .none kV13 dc13 pm13 an13 cd13 ct13), sl13⟩) (c13 : PySem.W.codeIn K cd13 "law" = true) (k13 : PySem.W.keepIn K (.ref f13) = true)
    (z_bool : PySem.W.nsIn K mainGlobals "bool" = some none)
    (z_gcd : PySem.W.nsIn K mainGlobals "gcd" = some (some (.builtin "math.gcd")))
    (z_int : PySem.W.nsIn K mainGlobals "int" = some none)
    (z_isinstance : PySem.W.nsIn K mainGlobals "isinstance" = some none)
    (z_len : PySem.W.nsIn K mainGlobals "len" = some none)
    (z_list : PySem.W.nsIn K mainGlobals "list" = some none)
    (z_max : PySem.W.nsIn K mainGlobals "max" = some none)
    (z_range : PySem.W.nsIn K mainGlobals "range" = some none)
    (z_sum : PySem.W.nsIn K mainGlobals "sum" = some none)
    (z_tuple : PySem.W.nsIn K mainGlobals "tuple" = some none)
    : ∃ fd : FuncData, (∀ (s : Shared) (v : Value), BindsTo s fd ⟨[v], []⟩ [("script", v)]) ∧ ∀ base : Heap, K.In base → base.Ns mainGlobals mg → FnOk l.prog w K mg base CX0 4 fa fd ["script"] (sp_law K) := by
  have e := hfa.symm.trans (PySem.W.mg_of X G a13)
  cases e
  have T : Txt mg := ⟨PySem.W.mg_none_of X G z_bool, PySem.W.mg_of X G z_gcd, PySem.W.mg_none_of X G z_int, PySem.W.mg_none_of X G z_isinstance, PySem.W.mg_none_of X G z_len, PySem.W.mg_none_of X G z_list, PySem.W.mg_none_of X G z_max, PySem.W.mg_none_of X G z_range, PySem.W.mg_none_of X G z_sum, PySem.W.mg_none_of X G z_tuple⟩
  have F_law_cell := fun_mk (st := s_law_cell) l1 c1 k1
  have B_law_cell := F_law_cell.binds (ps := ["script", "k"]) fun _ _ _ _ _ _ us hl => match us, hl with | [_, _], _ => rfl
  have F_law_digits := fun_mk (st := s_law_digits) l2 c2 k2
  have B_law_digits := F_law_digits.binds (ps := ["script", "first", "last"]) fun _ _ _ _ _ _ us hl => match us, hl with | [_, _, _], _ => rfl
  have F_law_draw := fun_mk (st := s_law_draw) l3 c3 k3
  have B_law_draw := F_law_draw.binds (ps := ["box", "many"]) fun _ _ _ _ _ _ us hl => match us, hl with | [_, _], _ => rfl
  have F_law_blocks := fun_mk (st := s_law_blocks) l4 c4 k4
  have B_law_blocks := F_law_blocks.binds (ps := ["box", "size", "most"]) fun _ _ _ _ _ _ us hl => match us, hl with | [_, _, _], _ => rfl
  have F_law_cells := fun_mk (st := s_law_cells) l5 c5 k5
  have B_law_cells := F_law_cells.binds (ps := ["size", "blocks"]) fun _ _ _ _ _ _ us hl => match us, hl with | [_, _], _ => rfl
  have F_law_runs := fun_mk (st := s_law_runs) l6 c6 k6
  have B_law_runs := F_law_runs.binds (ps := ["cells"]) fun _ _ _ _ _ _ us hl => match us, hl with | [_], _ => rfl
  have F_law_is_blocks := fun_mk (st := s_law_is_blocks) l7 c7 k7
  have B_law_is_blocks := F_law_is_blocks.binds (ps := ["xs"]) fun _ _ _ _ _ _ us hl => match us, hl with | [_], _ => rfl
  have F_is_layout := fun_mk (st := s_is_layout) l8 c8 k8
  have B_is_layout := F_is_layout.binds (ps := ["size", "layout"]) fun _ _ _ _ _ _ us hl => match us, hl with | [_, _], _ => rfl
  have F_gaps := fun_mk (st := s_gaps) l9 c9 k9
  have B_gaps := F_gaps.binds (ps := ["size", "layout"]) fun _ _ _ _ _ _ us hl => match us, hl with | [_, _], _ => rfl
  have F_live_cells := fun_mk (st := s_live_cells) l10 c10 k10
  have B_live_cells := F_live_cells.binds (ps := ["layout"]) fun _ _ _ _ _ _ us hl => match us, hl with | [_], _ => rfl
  have F_lowest_terms := fun_mk (st := s_lowest_terms) l11 c11 k11
  have B_lowest_terms := F_lowest_terms.binds (ps := ["numerator", "denominator"]) fun _ _ _ _ _ _ us hl => match us, hl with | [_, _], _ => rfl
  have F_measure := fun_mk (st := s_measure) l12 c12 k12
  have B_measure := F_measure.binds (ps := ["size", "layout"]) fun _ _ _ _ _ _ us hl => match us, hl with | [_, _], _ => rfl
  have F_law := fun_mk (st := s_law) l13 c13 k13
  refine ⟨PySem.W.fnOf "law" "law" (defArgs s_law) (defBody s_law) (defScope s_law) .none kV13 dc13 pm13 an13 cd13 ct13, fun s v => .of_eq rfl, fun base _ _ => ?_⟩
  have C_law_cell := mk_law_cell (P := l.prog) (w := w) (base := base) T F_law_cell (PySem.W.mg_of X G a1) B_law_cell
  have C_law_digits := mk_law_digits (P := l.prog) (w := w) (base := base) T F_law_digits (PySem.W.mg_of X G a2) B_law_digits C_law_cell
  have C_law_draw := mk_law_draw (P := l.prog) (w := w) (base := base) T F_law_draw (PySem.W.mg_of X G a3) B_law_draw
  have C_law_blocks := mk_law_blocks (P := l.prog) (w := w) (base := base) T F_law_blocks (PySem.W.mg_of X G a4) B_law_blocks C_law_draw
  have C_law_cells := mk_law_cells (P := l.prog) (w := w) (base := base) T F_law_cells (PySem.W.mg_of X G a5) B_law_cells
  have C_law_runs := mk_law_runs (P := l.prog) (w := w) (base := base) T F_law_runs (PySem.W.mg_of X G a6) B_law_runs
  have C_law_is_blocks := mk_law_is_blocks (P := l.prog) (w := w) (base := base) T F_law_is_blocks (PySem.W.mg_of X G a7) B_law_is_blocks
  have C_is_layout := mk_is_layout (P := l.prog) (w := w) (base := base) T F_is_layout (PySem.W.mg_of X G a8) B_is_layout
  have C_gaps := mk_gaps (P := l.prog) (w := w) (base := base) T F_gaps (PySem.W.mg_of X G a9) B_gaps
  have C_live_cells := mk_live_cells (P := l.prog) (w := w) (base := base) T F_live_cells (PySem.W.mg_of X G a10) B_live_cells
  have C_lowest_terms := mk_lowest_terms (P := l.prog) (w := w) (base := base) T F_lowest_terms (PySem.W.mg_of X G a11) B_lowest_terms
  have C_measure := mk_measure (P := l.prog) (w := w) (base := base) T F_measure (PySem.W.mg_of X G a12) B_measure C_gaps C_live_cells C_lowest_terms
  exact mk_law T F_law C_law_digits C_law_draw C_law_blocks C_law_cells C_law_runs C_law_is_blocks C_is_layout C_gaps C_live_cells C_measure
theorem walk {l : PySem.W.OpenLaw} {q : Program} {loose : List Str} {XP : (Str → Option Value) → Heap → Prop} {YP : World → Heap → Prop} {d : DefRec} {K : Params → PySem.W.Frag} (hn : l.most = some 63) (hdf : d.params.defaults = [])
    (hY : ∀ (w : World) (h : Heap), YP w h → (K w.params).In h)
    (F : ∀ (w : World) (mg : Str → Option Value) (fa : Addr) (h : Heap), (K w.params).In h → h.Ns mainGlobals mg → mg d.name = some (.ref fa) →
      ∃ fd : FuncData, (∀ (s : Shared) (u : Value), BindsTo s fd ⟨[u], []⟩ [("script", u)]) ∧ ∀ base : Heap, (K w.params).In base → base.Ns mainGlobals mg → FnOk l.prog w (K w.params) mg base CX0 4 fa fd ["script"] (sp_law (K w.params))) :
    PySem.W.WalkO q loose XP YP l.row.toRowW d [] (fun f vs => PySem.call f vs) :=
  L2.walk_of (n := 63) (k := 4) (x := "script") (CX := fun _ => CX0) (sp := fun w => sp_law (K w.params)) hn (by decide) hdf ⟨rfl, by decide, by decide⟩ hY F (fun _ _ a ns hl _ hS => ⟨a, ns, rfl, hS, hl, fun _ => rfl⟩) fun _ _ _ _ _ z => z
end Pf
open PySem PySem.W PyProof.Rows
set_option maxRecDepth 100000 in
set_option maxHeartbeats 0 in
theorem PySem.Challenge.cw_heapgame_k00_gaps_and_measures_holds : PySem.Challenge.rw_heapgame_k00_gaps_and_measures.Holds := by
  w_on; o_law; k_head; (case hw => w_witness2)
  k_fill
  refine Pf.walk (l := PySem.Challenge.rw_heapgame_k00_gaps_and_measures) rfl rfl (fun w h Y => PySem.W.kIn_of Y) ?F
  case F =>
    intro w mg fa h KX G hmg
    refine' Pf.all_mk KX G hmg ?a1 ?l1 ?c1 ?k1 ?a2 ?l2 ?c2 ?k2 ?a3 ?l3 ?c3 ?k3 ?a4 ?l4 ?c4 ?k4 ?a5 ?l5 ?c5 ?k5 ?a6 ?l6 ?c6 ?k6 ?a7 ?l7 ?c7 ?k7 ?a8 ?l8 ?c8 ?k8 ?a9 ?l9 ?c9 ?k9 ?a10 ?l10 ?c10 ?k10 ?a11 ?l11 ?c11 ?k11 ?a12 ?l12 ?c12 ?k12 ?a13 ?l13 ?c13 ?k13 ?z_bool ?z_gcd ?z_int ?z_isinstance ?z_len ?z_list ?z_max ?z_range ?z_sum ?z_tuple
    (case a1 => k_is)
    (case l1 => k_is)
    (case c1 => k_is)
    (case k1 => k_is)
    (case a2 => k_is)
    (case l2 => k_is)
    (case c2 => k_is)
    (case k2 => k_is)
    (case a3 => k_is)
    (case l3 => k_is)
    (case c3 => k_is)
    (case k3 => k_is)
    (case a4 => k_is)
    (case l4 => k_is)
    (case c4 => k_is)
    (case k4 => k_is)
    (case a5 => k_is)
    (case l5 => k_is)
    (case c5 => k_is)
    (case k5 => k_is)
    (case a6 => k_is)
    (case l6 => k_is)
    (case c6 => k_is)
    (case k6 => k_is)
    (case a7 => k_is)
    (case l7 => k_is)
    (case c7 => k_is)
    (case k7 => k_is)
    (case a8 => k_is)
    (case l8 => k_is)
    (case c8 => k_is)
    (case k8 => k_is)
    (case a9 => k_is)
    (case l9 => k_is)
    (case c9 => k_is)
    (case k9 => k_is)
    (case a10 => k_is)
    (case l10 => k_is)
    (case c10 => k_is)
    (case k10 => k_is)
    (case a11 => k_is)
    (case l11 => k_is)
    (case c11 => k_is)
    (case k11 => k_is)
    (case a12 => k_is)
    (case l12 => k_is)
    (case c12 => k_is)
    (case k12 => k_is)
    (case a13 => k_is)
    (case l13 => k_is)
    (case c13 => k_is)
    (case k13 => k_is)
    (case z_bool => k_is)
    (case z_gcd => k_is)
    (case z_int => k_is)
    (case z_isinstance => k_is)
    (case z_len => k_is)
    (case z_list => k_is)
    (case z_max => k_is)
    (case z_range => k_is)
    (case z_sum => k_is)
    (case z_tuple => k_is)
